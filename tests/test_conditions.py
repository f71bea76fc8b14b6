"""Point [20]."""

import itertools

from allboughs.conditions import flipped, goes, holds, is_condition, plain
from allboughs.errors import BadCondition, BadLot
from tests.support import Alike, Case, deep, dice, doubled, held, junk_but, some_condition

A, B, C, D = ("go", 0, 0), ("go", 0, 1), ("go", 1, 0), ("go", 1, 1)
YES, NO = ("yes",), ("no",)
ALL = ((0, 0), (0, 1), (1, 0), (1, 1))


def chain(many, leaf=A):
    """A condition that is so many nodes deep."""
    told = leaf
    for _ in range(many - 1):
        told = ("both", leaf, told)
    return told


def mirrored(condition):
    """A condition with its first and second parts exchanged."""
    if len(condition) == 3 and condition[0] != "go":
        return (condition[0], mirrored(condition[2]), mirrored(condition[1]))
    return condition


def spread(leaves):
    """A condition with so many leaves, as flat as can be."""
    if leaves == 1:
        return A
    return ("either", spread((leaves + 1) // 2), spread(leaves // 2))


def lots():
    """All lots of the four pairs."""
    for many in range(5):
        yield from itertools.combinations(ALL, many)


class IsCondition(Case):
    def test_conditions(self):
        for condition in (YES, NO, A, ("both", A, YES), ("either", ("both", A, B), NO)):
            self.assertIs(is_condition(condition), True)
        self.assertIs(is_condition(thing=YES), True)

    def test_goes_to_399(self):
        self.assertTrue(is_condition(("go", 1, 399)))
        self.assertFalse(is_condition(("go", 1, 400)))

    def test_number_of_nodes(self):
        self.assertTrue(is_condition(spread(800)))
        self.assertFalse(is_condition(spread(801)))
        self.assertFalse(is_condition(("both", spread(800), A)))

    def test_depth(self):
        self.assertTrue(is_condition(chain(30)))
        self.assertFalse(is_condition(chain(31)))
        self.assertFalse(is_condition(("either", A, chain(30))))
        self.assertFalse(is_condition(chain(5000)))
        self.assertTrue(is_condition(mirrored(chain(30))))
        self.assertFalse(is_condition(mirrored(chain(31))))
        self.assertFalse(is_condition(doubled("both", A, 25)))
        self.assertTrue(is_condition(doubled("both", A, 9)))

    def test_no_conditions(self):
        self.none_of(is_condition, (
            ("go", 2, 0), ("go", True, 0), ("go", 0, False), ("go", 0), ("go", 0, 0, 0), ("go", 0, -1), ("go", 0, 1.0),
            ["go", 0, 0], ("yes", "yes"), ("no", ()), "yes", ("maybe",), ("both", A), ("both", A, B, C), ("both",),
            ("either", A, None), ("either", [A], A), ("both", A, ["yes"]), ("go", (0,), 0), (YES,), ("not", A), (("yes",),),
            ("YES",), deep(40), (Alike(),), (Alike(), 0, 0), (Alike(), A, A), ("go", Alike(), 0), ("both", A, Alike()),
        ))
        self.none_of(is_condition, junk_but(YES))

    def test_errors(self):
        for function in (goes, plain, flipped):
            for thing in junk_but(YES):
                self.fails(BadCondition, function, thing)


class Goes(Case):
    def test_goes(self):
        self.assertEqual(goes(YES), ())
        self.assertEqual(goes(condition=("both", D, ("either", B, ("both", NO, B)))), ((0, 1), (1, 1)))
        self.assertEqual(goes(("either", ("go", 1, 2), ("either", ("go", 0, 300), ("go", 0, 7)))), ((0, 7), (0, 300), (1, 2)))


class Holds(Case):
    def test_by_hand(self):
        self.assertIs(holds(YES, ()), True)
        self.assertIs(holds(NO, ALL), False)
        self.assertIs(holds(A, ((0, 0),)), True)
        self.assertIs(holds(condition=A, lot=((0, 1), (1, 0))), False)
        self.assertTrue(holds(("both", A, D), ((0, 0), (1, 1))))
        self.assertFalse(holds(("both", A, D), ((1, 1),)))
        self.assertTrue(holds(("either", A, D), ((1, 1),)))
        self.assertFalse(holds(("either", A, D), ((1, 0), (1, 399))))

    def test_by_chance(self):
        chance = dice(10)
        for _ in range(100):
            condition = some_condition(chance, 2, 4)
            for lot in lots():
                self.assertEqual(holds(condition, lot), held(condition, lambda way, q: (way, q) in lot))

    def test_errors_in_order(self):
        self.fails(BadCondition, holds, None, None)
        for lot in (
            None, [], [(0, 0)], ((0, 0), (0, 0)), ((0, 1), (0, 0)), ((2, 0),), ((0, 400),), ((0, -1),), ((True, 0),),
            ((0, False),), ((0,),), ((0, 0, 0),), ([0, 0],), (0,), "ab", {(0, 0): True}, ((0, 0), None),
        ):
            self.fails(BadLot, holds, YES, lot)
            self.fails(BadCondition, holds, ("go", 0, 400), lot)
        for lot in junk_but((), ((0, 0),)):
            self.fails(BadLot, holds, A, lot)
        self.assertTrue(holds(YES, ((1, 399),)))


class Plain(Case):
    def test_by_hand(self):
        self.assertEqual(plain(("both", NO, A)), NO)
        self.assertEqual(plain(("both", A, NO)), NO)
        self.assertEqual(plain(("both", YES, A)), A)
        self.assertEqual(plain(("both", A, YES)), A)
        self.assertEqual(plain(("either", YES, A)), YES)
        self.assertEqual(plain(("either", A, YES)), YES)
        self.assertEqual(plain(("either", NO, A)), A)
        self.assertEqual(plain(condition=("either", A, NO)), A)
        self.assertEqual(plain(("both", YES, YES)), YES)
        self.assertEqual(plain(("either", NO, NO)), NO)
        self.assertEqual(plain(("both", YES, NO)), NO)
        self.assertEqual(plain(("both", A, A)), ("both", A, A))
        self.assertEqual(plain(("either", ("both", A, ("either", NO, YES)), ("both", B, NO))), A)

    def test_by_chance(self):
        chance = dice(11)
        for _ in range(150):
            condition = some_condition(chance, 2, 5)
            told = plain(condition)
            self.assertEqual(plain(told), told)
            self.assertTrue(told in (YES, NO) or ("yes" not in str(told) and "no" not in str(told)))
            for lot in lots():
                self.assertEqual(holds(told, lot), holds(condition, lot))

    def test_at_the_limits(self):
        self.assertEqual(plain(chain(30)), chain(30))
        self.assertEqual(plain(chain(30, YES)), YES)


class Flipped(Case):
    def test_by_hand(self):
        self.assertEqual(flipped(("both", A, ("either", YES, NO))), ("either", A, ("both", NO, YES)))
        self.assertEqual(flipped(condition=D), D)

    def test_by_chance(self):
        chance = dice(12)
        for _ in range(100):
            condition = some_condition(chance, 2, 4)
            self.assertEqual(flipped(flipped(condition)), condition)
            for lot in lots():
                other = tuple(pair for pair in ALL if pair not in lot)
                self.assertEqual(holds(flipped(condition), lot), not holds(condition, other))
