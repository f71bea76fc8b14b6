"""Point [24]."""

import itertools

from allboughs.conditions import flipped, holds, is_condition, plain
from allboughs.errors import BadCondition, BadLots
from allboughs.models import models, written
from tests.support import Case, dice, junk_but, some_condition
from tests.test_conditions import ALL, chain, lots

A, B, C, D = ("go", 0, 0), ("go", 0, 1), ("go", 1, 0), ("go", 1, 1)
YES, NO = ("yes",), ("no",)


def go(number):
    """One of 800 goes."""
    return ("go", number // 400, number % 400)


def any_of(begin, many):
    """The condition that one of so many goes is taken."""
    if many == 1:
        return go(begin)
    half = (many + 1) // 2
    return ("either", any_of(begin, half), any_of(begin + half, many - half))


def joined(word, parts):
    """Parts joined by halves."""
    if len(parts) == 1:
        return parts[0]
    half = (len(parts) + 1) // 2
    return (word, joined(word, parts[:half]), joined(word, parts[half:]))


def least_lots(condition):
    """The least lots by which a condition over four pairs holds."""
    fine = [lot for lot in lots() if holds(condition, lot)]
    return tuple(sorted(lot for lot in fine if not any(set(less) < set(lot) for less in fine)))


class Models(Case):
    def test_by_hand(self):
        condition = ("both", ("either", A, B), ("either", A, C))
        self.assertEqual(models(condition), (((0, 0),), ((0, 1), (1, 0))))
        self.assertEqual(models(condition=flipped(condition)), (((0, 0), (0, 1)), ((0, 0), (1, 0))))
        self.assertEqual(models(YES), ((),))
        self.assertEqual(models(NO), ())
        self.assertEqual(models(D), (((1, 1),),))
        self.assertEqual(models(("either", A, YES)), ((),))
        self.assertEqual(models(("both", A, NO)), ())
        self.assertEqual(models(("either", A, ("both", A, B))), (((0, 0),),))
        self.assertEqual(models(("either", go(799), go(7))), (((0, 7),), ((1, 399),)))

    def test_least_lots(self):
        chance = dice(70)
        for _ in range(150):
            condition = some_condition(chance, 2, 5)
            told = models(condition)
            self.assertEqual(told, least_lots(condition))
            for lot in lots():
                self.assertEqual(holds(condition, lot), any(set(model) <= set(lot) for model in told))

    def test_models_of_flipped(self):
        chance = dice(71)
        for _ in range(100):
            condition = some_condition(chance, 2, 4)
            told = models(condition)
            fine = [lot for lot in lots() if all(set(lot) & set(model) for model in told)]
            least = tuple(sorted(lot for lot in fine if not any(set(less) < set(lot) for less in fine)))
            self.assertEqual(models(flipped(condition)), least)

    def test_products(self):
        self.assertEqual(len(models(("both", any_of(0, 40), any_of(40, 50)))), 2000)
        self.many(2000, models, ("both", any_of(0, 29), any_of(29, 69)))
        self.many(2000, models, ("both", any_of(0, 50), any_of(0, 50)))
        self.assertEqual(models(("both", any_of(0, 44), any_of(0, 44))), models(any_of(0, 44)))

    def test_sums(self):
        full = ("both", any_of(0, 40), any_of(40, 50))
        self.assertEqual(len(models(("either", full, NO))), 2000)
        self.many(2000, models, ("either", full, go(500)))
        self.many(2000, models, ("either", YES, full))
        self.many(2000, models, ("either", full, full))
        wide = ("both", any_of(0, 40), any_of(40, 49))
        self.assertEqual(len(models(("either", wide, any_of(100, 40)))), 2000)
        self.many(2000, models, ("either", wide, any_of(100, 41)))

    def test_in_any_part(self):
        over = ("both", any_of(0, 29), any_of(29, 69))
        for condition in (("both", over, NO), ("both", NO, over), ("either", YES, ("both", A, over)), ("both", ("both", over, A), A)):
            self.many(2000, models, condition)

    def test_plain_ones_say_the_same(self):
        chance = dice(72)
        for _ in range(60):
            condition = some_condition(chance, 3, 5)
            self.assertEqual(models(plain(condition)), models(condition))

    def test_errors(self):
        for thing in junk_but(YES):
            self.fails(BadCondition, models, thing)
        self.fails(BadCondition, models, chain(31))
        self.assertEqual(models(chain(30)), (((0, 0),),))


class Written(Case):
    def test_by_hand(self):
        self.assertEqual(written(()), NO)
        self.assertEqual(written(((),)), YES)
        self.assertEqual(written(lots=(((0, 0),),)), A)
        self.assertEqual(written((ALL,)), ("both", ("both", A, B), ("both", C, D)))
        self.assertEqual(written((((0, 0), (0, 1), (1, 0)),)), ("both", ("both", A, B), C))
        self.assertEqual(written((((0, 0),), ((0, 1),), ((1, 0), (1, 1)))), ("either", ("either", A, B), ("both", C, D)))
        five = tuple(((0, at),) for at in range(5))
        self.assertEqual(written(five), joined("either", [("go", 0, at) for at in range(5)]))
        self.assertEqual(written(five), ("either", ("either", ("either", go(0), go(1)), go(2)), ("either", go(3), go(4))))

    def test_there_and_back(self):
        chance = dice(73)
        for _ in range(150):
            told = models(some_condition(chance, 3, 5))
            self.assertEqual(models(written(told)), told)

    def test_number_of_nodes(self):
        pairs = tuple(sorted(tuple(sorted(((0, at), (1, at % 7)))) for at in range(400)))
        condition = written(pairs)
        self.assertTrue(is_condition(condition))
        self.assertEqual(models(condition), pairs)
        others = tuple(sorted([*pairs[:399], ((1, 20), (1, 21)), ((1, 22), (1, 23))]))
        self.assertEqual(len(others), 401)
        self.many(1600, written, others)
        longer = tuple(sorted([*pairs[:399], ((1, 20), (1, 21), (1, 22))]))
        self.many(1600, written, longer)
        alone = tuple((go_pair,) for go_pair in sorted((at // 400, at % 400) for at in range(800)))
        self.assertTrue(is_condition(written(alone)))
        self.assertTrue(is_condition(written((tuple(pair for (pair,) in alone),))))

    def test_order_of_errors(self):
        pairs = tuple(sorted(((0, at), (1, at)) for at in range(400)))
        self.fails(BadLots, written, tuple(sorted([*pairs, ((0, 0),), ((1, 8),)])))

    def test_no_lots(self):
        for lots_of in (
            [], [((0, 0),)], ([(0, 0)],), (((0, 0),), ((0, 0),)), (((0, 1),), ((0, 0),)), ((), ((0, 0),)), (((0, 0),), ((0, 0), (0, 1))),
            (((0, 0), (0, 1)), ((0, 1),)), ((((0, 1), (0, 0))),), (((2, 0),),), (((0, 400),),), (((0, True),),), (None,), 0, None, "",
            ((0, 0),), ((((0, 0), (0, 0))),), (((0, 0), (1, 1)), ((0, 0), (1, 0), (1, 1))),
        ):
            self.fails(BadLots, written, lots_of)
        for thing in junk_but((), ((),), ((0, 0),)):
            self.fails(BadLots, written, thing)

    def test_all_small_ones(self):
        every = list(lots())
        for one, other in itertools.combinations(sorted(every), 2):
            row = (one, other)
            if set(one) <= set(other) or set(other) <= set(one):
                self.fails(BadLots, written, row)
            else:
                self.assertEqual(models(written(row)), row)
