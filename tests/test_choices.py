"""Point [40]."""

import itertools

from allboughs.choices import as_machine, is_choices, tidied
from allboughs.errors import BadChoices
from allboughs.machines import is_machine, pressed
from tests.support import Case, choices_let, dice, junk_but, machine_lets, some_choices, some_wood_of

C = ("choices", ("x",), ((1, (((0, 0),), ((1, 1),))), (0, (((1, 1),), ((1, 1),)))))
PAIRS = tuple(itertools.product(range(21), repeat=2))


def go(way, state):
    """A go."""
    return ("go", way, state)


def to(left, right):
    """The condition of one pair."""
    return ("both", go(0, left), go(1, right))


def bare(*lists):
    """Choices without names, all ranks 0."""
    return ("choices", (), tuple((0, (pairs,)) for pairs in lists))


class IsChoices(Case):
    def test_choices(self):
        self.assertIs(is_choices(C), True)
        self.assertIs(is_choices(thing=bare(())), True)
        self.assertTrue(is_choices(("choices", ("a", "b", "c"), ((300, ((), ((0, 0),)) * 4),))))

    def test_number_of_states(self):
        self.assertTrue(is_choices(bare(*[()] * 400)))
        self.assertFalse(is_choices(bare(*[()] * 401)))
        self.assertFalse(is_choices(bare()))
        self.assertTrue(is_choices(bare(*[((399, 0),)] * 400)))
        self.assertFalse(is_choices(bare(*[((399, 0),)] * 399)))

    def test_ranks(self):
        self.assertTrue(is_choices(("choices", (), ((300, ((),)),))))
        self.none_of(is_choices, [("choices", (), ((rank, ((),)),)) for rank in (301, -1, True, 0.0, "0", None, ())])

    def test_number_of_pairs(self):
        self.assertTrue(is_choices(bare(PAIRS[:400], *[()] * 20)))
        self.assertFalse(is_choices(bare(PAIRS[:401], *[()] * 20)))

    def test_no_choices(self):
        lists = (
            ((0, 0), (0, 0)), ((0, 1), (0, 0)), [(0, 0)], ([0, 0],), ((0,),), ((0, 0, 0),), ((0, 2),), ((2, 0),), ((-1, 0),),
            ((True, 0),), ((0, False),), ((0, 0.0),), (None,), None, 0, "ab", ((0, 0), None), (0, 0),
        )
        self.none_of(is_choices, [bare(pairs, ()) for pairs in lists])
        self.none_of(is_choices, [
            ["choices", (), ((0, ((),)),)], ("choices", (), [(0, ((),))]), ("choices", (), ([0, ((),)],)),
            ("choices", (), ((0, [()]),)), ("choices", (), ((0, ()),)), ("choices", (), ((0, ((), ())),)),
            ("choices", ["x"], ((0, ((), ())),)), ("choices", ("x",), ((0, ((),)),)), ("choice", (), ((0, ((),)),)),
            ("choices", ("b", "a"), ((0, ((),) * 4),)), ("choices", (), ((0, ((),)),), 0), ("choices", ()),
            ("choices", ("a", "b", "c", "d"), ((0, ((),) * 16),)), ("choices", (), ((0,),)), ("choices", (), (None,)),
            ("choices", (), ((0, ((),), 0),)), ("choices", (), ((0, ((),), ()),)),
        ])
        self.none_of(is_choices, junk_but())

    def test_errors(self):
        for function in (tidied, as_machine):
            for thing in junk_but(("choices", (), ())):
                self.fails(BadChoices, function, thing)


class Tidied(Case):
    def test_by_hand(self):
        self.assertEqual(tidied(C), C)
        self.assertEqual(tidied(choices=bare(((2, 3),), ((0, 0),), (), ((3, 0),))), bare(((1, 2),), (), ((2, 0),)))

    def test_numbered_in_the_sequence_of_the_lists(self):
        rows = ((0, (((0, 4), (3, 0)), ((2, 2),))), (0, ((), ())), (0, (((2, 4),), ())), (0, ((), ())), (0, ((), ((3, 2),))))
        told = tidied(("choices", ("x",), rows))
        self.assertEqual(told, ("choices", ("x",), (
            (0, (((0, 1), (2, 0)), ((3, 3),))), (0, ((), ((2, 3),))), (0, ((), ())), (0, (((3, 1),), ())))))

    def test_lists_ascend_again(self):
        told = tidied(bare(((0, 3), (1, 2)), (), (), ((0, 0), (2, 1), (3, 1))))
        self.assertEqual(told, bare(((0, 1), (2, 3)), ((0, 0), (1, 2), (3, 2)), (), ()))
        self.assertTrue(is_choices(told))

    def test_ranks_told_anew(self):
        rows = ((7, (((1, 1),),)), (2, (((0, 1), (1, 1)),)), (5, (((0, 0),),)))
        self.assertEqual(tidied(("choices", (), rows)), ("choices", (), ((1, (((1, 1),),)), (0, (((0, 1), (1, 1)),)))))
        self.assertEqual(tidied(("choices", (), ((9, (((1, 1),),)), (3, ((),))))), bare(((1, 1),), ()))
        rows = ((1, (((0, 0), (1, 2)),)), (4, (((0, 2),),)), (8, ((),)))
        self.assertEqual([rank for rank, _ in tidied(("choices", (), rows))[2]], [1, 2, 0])

    def test_it_lets_by_the_same(self):
        chance = dice(40)
        for _ in range(100):
            choices = some_choices(chance, ("x",), chance.randint(1, 4), 5)
            told = tidied(choices)
            self.assertTrue(is_choices(told))
            self.assertLessEqual(len(told[2]), len(choices[2]))
            for _ in range(3):
                wood = some_wood_of(chance, ("x",), 3)
                self.assertEqual(choices_let(told, wood), choices_let(choices, wood))


class AsMachine(Case):
    def test_by_hand(self):
        self.assertEqual(as_machine(C), ("machine", ("x",), ((1, (to(0, 0), to(1, 1))), (0, (to(1, 1), to(1, 1))))))
        self.assertEqual(as_machine(choices=bare(())), ("machine", (), ((0, (("no",),)),)))

    def test_by_halves(self):
        told = as_machine(bare(((0, 0), (0, 1), (1, 0)), ()))
        self.assertEqual(told[2][0][1], (("either", ("either", to(0, 0), to(0, 1)), to(1, 0)),))
        told = as_machine(bare(((0, 0), (0, 1), (1, 0), (1, 1), (1, 2)), (), ()))
        first = ("either", ("either", to(0, 0), to(0, 1)), to(1, 0))
        self.assertEqual(told[2][0][1], (("either", first, ("either", to(1, 1), to(1, 2))),))

    def test_it_is_pressed(self):
        rows = ((7, (((2, 2),), ())), (3, ((), ())), (4, (((0, 2),), ())))
        told = as_machine(("choices", ("x",), rows))
        self.assertEqual(told, ("machine", ("x",), ((1, (to(1, 1), ("no",))), (0, (to(0, 1), ("no",))))))

    def test_400_pairs(self):
        told = as_machine(bare(PAIRS[:400], *[()] * 20))
        self.assertTrue(is_machine(told))
        self.assertEqual(len(told[2]), 21)

    def test_it_lets_by_the_same(self):
        chance = dice(41)
        for _ in range(100):
            choices = some_choices(chance, ("x",), chance.randint(1, 3), 4, 5)
            told = as_machine(choices)
            self.assertTrue(is_machine(told))
            self.assertEqual(pressed(told), told)
            for _ in range(3):
                wood = some_wood_of(chance, ("x",), 3)
                self.assertEqual(machine_lets(told, wood), choices_let(choices, wood))
