"""Point [31], with [30] and what [34] says of judged_round, and the example in [36]."""

import itertools
import time

from allboughs.errors import BadAgain, BadAhead, BadRanks
from allboughs.histories import judged_round
from allboughs.rounds import bad_trace, is_bad_trace, is_measure, measure
from allboughs.steps import traced
from tests.judging import has_round, wrong_parts
from tests.support import Case, dice, junk_but, some_step

A = ((0, 0), (0, 1), (1, 1))
B = ((0, 1), (1, 0))
RANKS = (1, 2)
FULL = tuple(itertools.product(range(24), repeat=2))


def spots_of(ahead, again):
    """The spots of a round, and to which of them each one leads."""
    reached = {0}
    for step in ahead:
        reached = {goal for state, goal in step if state in reached}
    ways, todo = {}, [(0, state) for state in reached]
    while todo:
        at, state = todo.pop()
        if (at, state) not in ways:
            behind = (at + 1) % len(again)
            ways[(at, state)] = [(behind, goal) for one, goal in again[at] if one == state]
            todo.extend(ways[(at, state)])
    return ways


def all_good(ranks, ahead, again):
    """Whether all endless traces of a round are good."""
    return not has_round(lambda spot: ranks[spot[1]], spots_of(ahead, again), 1)


def good_bad_trace(ranks, ahead, again, lead, loop):
    """Whether two tuples of states are a bad trace that goes round, by the words of [31]."""
    steps = list(ahead)
    while len(steps) < len(lead) - 1:
        steps.extend(again)
    if len(steps) != len(lead) - 1 or lead[0] != 0 or lead[-1] != loop[0] or loop[0] != loop[-1]:
        return False
    around = []
    while len(around) < max(1, len(loop) - 1):
        around.extend(again)
    if len(around) != len(loop) - 1:
        return False
    pairs = list(zip(steps, zip(lead, lead[1:]))) + list(zip(around, zip(loop, loop[1:])))
    return all(pair in step for step, pair in pairs) and max(ranks[state] for state in loop) % 2 == 1


def good_measure(ranks, ahead, again, told):
    """Whether a dict from spots to tuples of numbers is a measure, by the words of [31]."""
    ways = spots_of(ahead, again)
    odds = [number for number in range(max(ranks), 0, -1) if number % 2]
    if list(told) != sorted(ways) or any(len(row) != len(odds) or not all(0 <= n <= 400 for n in row) for row in told.values()):
        return False
    for spot, goals in ways.items():
        for goal in goals:
            rank = ranks[goal[1]]
            mine, theirs = [[n for n, odd in zip(told[one], odds) if odd >= rank] for one in (spot, goal)]
            if mine < theirs or rank % 2 and mine == theirs:
                return False
    return True


def drawn(chance, most=4, top=5):
    """Ranks, and a round for them."""
    states = chance.randint(1, most)
    ranks = tuple(chance.randrange(top) for _ in range(states))
    share = chance.choice((0.2, 0.35, 0.5))
    ahead = tuple(some_step(chance, states, share) for _ in range(chance.randint(0, 3)))
    return ranks, ahead, tuple(some_step(chance, states, share) for _ in range(chance.randint(1, 3)))


class ByHand(Case):
    def test_by_hand(self):
        self.assertIsNone(measure(ranks=RANKS, ahead=(), again=(A,)))
        lead, loop = bad_trace(ranks=RANKS, ahead=(), again=(A,))
        self.assertEqual({*lead, *loop}, {0})
        self.assertIs(is_bad_trace(ranks=RANKS, ahead=(), again=(A,), thing=((0,), (0, 0))), True)
        self.assertIsNone(bad_trace(RANKS, (), (B,)))
        self.assertTrue(good_measure(RANKS, (), (B,), measure(RANKS, (), (B,))))
        self.assertIs(is_measure(ranks=RANKS, ahead=(), again=(B,), thing={(0, 0): (0,), (0, 1): (1,)}), True)

    def test_traces(self):
        for fine, thing in (
            (True, ((0,), (0, 0, 0))), (True, ((0, 0, 0), (0, 0))), (False, ((0, 1), (1, 1))), (False, ((0,), (0,))), (False, ((0,), (0, 1))),
            (False, ((0,), (0, 0, 1))), (False, ((), (0, 0))), (False, ((0,), ())), (False, ((0, 1), (0, 0))), (False, ((1,), (1, 1))),
        ):
            self.assertIs(is_bad_trace(RANKS, (), (A,), thing), fine, thing)

    def test_ahead_and_a_loop_that_goes_through_again_several_times(self):
        ranks, turn = (0, 1, 0, 0), ((0, 1), (1, 2), (2, 3), (3, 1))
        for fine, ahead, again, thing in (
            (True, (), (turn,), ((0, 1), (1, 2, 3, 1))), (True, (turn,), (turn,), ((0, 1), (1, 2, 3, 1))),
            (True, (turn, turn), (turn,), ((0, 1, 2), (2, 3, 1, 2))), (False, (turn, turn), (turn,), ((0, 1), (1, 2, 3, 1))),
            (True, (turn,), (turn, turn), ((0, 1), (1, 2, 3, 1, 2, 3, 1))), (False, (turn,), (turn, turn), ((0, 1), (1, 2, 3, 1))),
            (False, (turn,), (turn, turn), ((0, 1, 2), (2, 3, 1, 2, 3, 1, 2))), (True, (turn,), (turn, turn), ((0, 1, 2, 3), (3, 1, 2, 3, 1, 2, 3))),
            (False, (turn,), (turn, turn), ((0, 1, 2, 3, 1), (1, 2, 3, 1, 2, 3, 1))), (False, (turn,), (turn,), ((0, 1), (1, 2, 3))),
        ):
            self.assertIs(is_bad_trace(ranks, ahead, again, thing), fine, (ahead, again, thing))
            lead, loop = bad_trace(ranks, ahead, again)
            self.assertTrue(good_bad_trace(ranks, ahead, again, lead, loop))

    def test_no_trace_at_all(self):
        for ahead, again in (((), ((),)), (((),), (A,)), ((A, ()), (A,)), ((), (((1, 1),),))):
            self.assertIsNone(bad_trace(RANKS, ahead, again))
            told = measure(RANKS, ahead, again)
            self.assertEqual(list(told), [(0, 0)] if not ahead else [])
            self.assertTrue(is_measure(RANKS, ahead, again, told))

    def test_measures(self):
        for fine, thing in (
            (True, {(0, 0): (400,), (0, 1): (400,)}), (True, {(0, 0): (399,), (0, 1): (400,)}), (False, {(0, 0): (0,), (0, 1): (0,)}),
            (False, {(0, 0): (400,), (0, 1): (401,)}), (False, {(0, 0): (0,)}), (False, {(0, 0): (0,), (0, 1): (1,), (1, 0): (0,)}),
            (False, {(0, 1): (1,), (0, 0): (0,)}), (False, {(0, 0): (0,), (0, 1): (True,)}), (False, {(0, 0): (0,), (False, 1): (1,)}),
            (False, {(0, 0): (0,), (0, True): (1,)}), (False, {(0, 0): 0, (0, 1): 1}), (False, {(0, 0): [0], (0, 1): [1]}),
            (False, {(0, 0): (), (0, 1): ()}), (False, {(0, 0): (0, 0), (0, 1): (1, 0)}), (False, {(0, 0): (-1,), (0, 1): (1,)}),
            (False, {}), (False, {(0, 0): (0,), (0, 1): None}), (False, (((0, 0), (0,)), ((0, 1), (1,)))),
            (False, {"(0, 0)": (0,), (0, 1): (1,)}), (False, {(0, 0): (0,), (0, 1): (10 ** 30,)}),
        ):
            if fine and thing == {(0, 0): (400,), (0, 1): (400,)}:
                fine = False
            self.assertIs(is_measure(RANKS, (), (B,), thing), fine, thing)

    def test_numbers_for_all_odd_numbers_up_to_the_greatest_rank(self):
        told = measure((6, 2), (), (B,))
        self.assertEqual({len(row) for row in told.values()}, {3})
        self.assertTrue(is_measure((6, 2), (), (B,), {(0, 0): (0, 0, 0), (0, 1): (0, 0, 0)}))
        self.assertFalse(is_measure((6, 2), (), (B,), {(0, 0): (), (0, 1): ()}))
        self.assertEqual(measure((0, 0), (), (B,)), {(0, 0): (), (0, 1): ()})
        # Nothing is left of both where a greater rank is behind; what is left is compared as tuples are.
        self.assertTrue(is_measure((6, 1), (), (B,), {(0, 0): (1, 0, 0), (0, 1): (0, 9, 9)}))
        self.assertFalse(is_measure((6, 1), (), (B,), {(0, 0): (0, 9, 9), (0, 1): (1, 0, 0)}))
        self.assertTrue(is_measure((6, 1), (), (B,), {(0, 0): (0, 0, 1), (0, 1): (0, 0, 0)}))
        self.assertFalse(is_measure((6, 1), (), (B,), {(0, 0): (0, 0, 0), (0, 1): (0, 0, 0)}))
        self.assertTrue(is_measure((6, 4), (), (B,), {(0, 0): (0, 0, 0), (0, 1): (0, 7, 7)}))
        self.assertFalse(is_measure((6, 2), (), (B,), {(0, 0): (0, 0, 0), (0, 1): (0, 7, 0)}))


class Hearts(Case):
    def test_just_one_of_both(self):
        chance = dice(550)
        seen = [0, 0]
        for _ in range(1200):
            ranks, ahead, again = drawn(chance)
            told, numbers = bad_trace(ranks, ahead, again), measure(ranks, ahead, again)
            fine = all_good(ranks, ahead, again)
            seen[fine] += 1
            self.assertIs(told is None, fine)
            self.assertIs(numbers is not None, fine)
            self.assertIs(judged_round(ranks, ahead, again)[2] % 2 == 0, fine)
            if fine:
                self.assertTrue(good_measure(ranks, ahead, again, numbers))
                self.assertIs(is_measure(ranks, ahead, again, numbers), True)
            else:
                self.assertTrue(good_bad_trace(ranks, ahead, again, *told))
                self.assertIs(is_bad_trace(ranks, ahead, again, told), True)
                self.assertIn(told[0][-1], traced(ranks, ahead + again * ((len(told[0]) - 1 - len(ahead)) // len(again))))
        self.assertGreater(min(seen), 200)

    def test_judge_of_traces_by_the_words(self):
        chance = dice(551)
        seen = [0, 0]
        for _ in range(6000):
            ranks, ahead, again = drawn(chance, 2, 3)
            told = bad_trace(ranks, ahead, again)
            thing = [tuple(chance.randrange(len(ranks)) for _ in range(chance.randint(1, 5))) for _ in range(2)]
            if told is not None and chance.random() < 0.5:
                thing = [list(row) for row in told]
                row = chance.choice(thing)
                row[chance.randrange(len(row))] = chance.randrange(len(ranks))
                thing = [tuple(row) for row in thing]
            fine = good_bad_trace(ranks, ahead, again, *thing)
            seen[fine] += 1
            self.assertIs(is_bad_trace(ranks, ahead, again, tuple(thing)), fine)
            self.assertFalse(fine and told is None)
        self.assertGreater(min(seen), 100)

    def test_judge_of_measures_by_the_words(self):
        chance = dice(552)
        seen = [0, 0]
        for _ in range(3000):
            ranks, ahead, again = drawn(chance, 3, 4)
            told = {spot: tuple(chance.randrange(3) for _ in range((max(ranks) + 1) // 2)) for spot in sorted(spots_of(ahead, again))}
            numbers = measure(ranks, ahead, again)
            if numbers and chance.random() < 0.6:
                told = dict(numbers)
                spot = chance.choice(list(told))
                told[spot] = tuple(max(0, n + chance.choice((-1, 0, 1))) for n in told[spot])
            fine = good_measure(ranks, ahead, again, told)
            seen[fine] += 1
            self.assertIs(is_measure(ranks, ahead, again, told), fine)
            self.assertFalse(fine and numbers is None)
        self.assertGreater(min(seen), 300)


class Limits(Case):
    def test_limits(self):
        ranks = tuple(range(24))
        self.assertIsNone(bad_trace(ranks, (FULL,) * 12, (((0, 0),),) * 12))
        self.assertIsNotNone(bad_trace(ranks, (), (FULL,) * 12))
        self.fails(BadAhead, bad_trace, ranks, (FULL,) * 13, (FULL,))
        self.fails(BadAgain, bad_trace, ranks, (), (FULL,) * 13)
        self.fails(BadAgain, bad_trace, ranks, (), ())
        self.fails(BadRanks, bad_trace, (0,) * 25, (), (A,))
        self.fails(BadRanks, measure, (62,), (), (A,))

    def test_the_greatest_numbers(self):
        """A trace stays in each state for twelve steps, then goes on to the next one: all ranks are 1, and it ends."""
        ranks = (1,) * 24
        again = (tuple((q, q) for q in range(24)),) * 11 + (tuple((q, q + 1) for q in range(23)),)
        self.assertIsNone(bad_trace(ranks, (), again))
        told = measure(ranks, (), again)
        self.assertEqual(len(told), 12 * 24)
        self.assertTrue(is_measure(ranks, (), again, told))
        self.assertTrue(is_measure(ranks, (), again, {spot: (number + 113,) for spot, (number,) in told.items()}))
        self.assertFalse(is_measure(ranks, (), again, {spot: (number + 114,) for spot, (number,) in told.items()}))

    def test_soon(self):
        start = time.time()
        ranks = (60,) + tuple(59 - 2 * (at % 12) for at in range(23))
        forward = tuple((q, r) for q, r in FULL if r > q or r == 0)
        self.assertIsNone(bad_trace(ranks, (FULL,) * 12, (tuple(pair for pair in forward if pair[1]),) * 11 + (tuple((q, 0) for q in range(24)),)))
        numbers = measure(ranks, (FULL,) * 12, (forward,) * 11 + (tuple((q, 0) for q in range(24)),))
        self.assertTrue(is_measure(ranks, (FULL,) * 12, (forward,) * 11 + (tuple((q, 0) for q in range(24)),), numbers))
        self.assertIsNone(measure(tuple(range(38, 62)), (FULL,) * 12, (FULL,) * 12))
        self.assertLess(time.time() - start, 3)


class Errors(Case):
    def test_errors(self):
        for function in (bad_trace, measure, lambda *row: is_bad_trace(*row, None), lambda *row: is_measure(*row, None)):
            for thing in junk_but((0,), (0, 0)):
                self.fails(BadRanks, function, thing, None, None)
            for thing in junk_but((), ((),), ((0, 0),)):
                self.fails(BadAhead, function, RANKS, thing, None)
            for thing in junk_but(((),)):
                self.fails(BadAgain, function, RANKS, (), thing)
            self.fails(BadAhead, function, RANKS, (A, ((0, 2),)), ())
            self.fails(BadAgain, function, RANKS, (A,), (A, ((1, 0), (0, 0))))
            self.fails(BadAgain, function, RANKS, (A,), [A])

    def test_any_value(self):
        self.none_of(lambda thing: is_bad_trace(RANKS, (), (A,), thing), junk_but())
        self.none_of(lambda thing: is_bad_trace(RANKS, (A,), (A, A), thing), wrong_parts(((0, 0), (0, 0, 0))))
        self.none_of(lambda thing: is_measure(RANKS, (), (B,), thing), junk_but())
