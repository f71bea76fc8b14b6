"""Point [30]."""

import itertools

from allboughs.errors import BadRanks, BadSteps
from allboughs.steps import is_ranks, is_step, traced
from tests.support import Case, dice, junk_but, some_step

A = ((0, 0), (0, 1), (1, 1))
B = ((0, 1), (1, 0))


class IsRanks(Case):
    def test_ranks(self):
        self.assertIs(is_ranks((1, 2)), True)
        self.assertIs(is_ranks(thing=(0,)), True)
        self.assertTrue(is_ranks((61,) * 24))
        self.none_of(is_ranks, ((61,) * 25, (0, 62), (), (-1,), (True,), (False, 0), [0], (0.0,), ("0",), (None,), 0, "01"))
        self.none_of(is_ranks, junk_but((0,), (0, 0)))


class IsStep(Case):
    def test_steps(self):
        for step in (A, B, (), ((1, 0),), ((0, 0), (0, 1), (1, 0), (1, 1))):
            self.assertIs(is_step((1, 2), step), True)
        self.assertIs(is_step(ranks=(5,), thing=((0, 0),)), True)
        self.none_of(lambda thing: is_step((1, 2), thing), (
            ((0, 2),), ((2, 0),), ((1, 0), (0, 1)), ((0, 0), (0, 0)), [(0, 0)], ([0, 0],), ((0,),), ((0, 0, 0),), ((-1, 0),),
            ((True, 0),), ((0, False),), ((0, 1.0),), (None,), 0, None, ((0, 0), 1), {(0, 0): 1}, "ab",
        ))
        self.none_of(lambda thing: is_step((1,), thing), junk_but((), ((0, 0),)))

    def test_errors(self):
        for thing in junk_but((0,), (0, 0)):
            self.fails(BadRanks, is_step, thing, A)
            self.fails(BadRanks, traced, thing, None)


class Traced(Case):
    def test_by_hand(self):
        self.assertEqual(traced((1, 2), ()), (0,))
        self.assertEqual(traced((1, 2), (A,)), (0, 1))
        self.assertEqual(traced(ranks=(1, 2), steps=(B, B, B)), (1,))
        self.assertEqual(traced((1, 2), (B, ((0, 0), (0, 1)), A)), ())
        self.assertEqual(traced((0, 0, 0), (((0, 2), (1, 1)), ((2, 0), (2, 1)))), (0, 1))

    def test_by_all_traces(self):
        chance = dice(50)
        for _ in range(60):
            steps = tuple(some_step(chance, 3, 0.4) for _ in range(chance.randint(0, 4)))
            ends = set()
            for trace in itertools.product(range(3), repeat=len(steps)):
                states = (0, *trace)
                if all(pair in step for pair, step in zip(zip(states, states[1:]), steps)):
                    ends.add(states[-1])
            self.assertEqual(traced((0, 1, 2), steps), tuple(sorted(ends)))

    def test_200_steps(self):
        self.assertEqual(traced((1, 2), (B,) * 200), (0,))
        self.fails(BadSteps, traced, (1, 2), (B,) * 201)

    def test_errors(self):
        for steps in ([A], A, (A, None), (A, [(0, 0)]), (((0, 2),),), 0, None, ((0, 0),), "ab", (((1, 0), (0, 1)),)):
            self.fails(BadSteps, traced, (1, 2), steps)
        for steps in junk_but((), ((),)):
            self.fails(BadSteps, traced, (1, 2), steps)
