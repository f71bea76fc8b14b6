"""Point [71], with [32]."""

import itertools
import time

from allboughs.errors import BadOutsider, BadWish, OtherScope
from allboughs.histories import first, led
from allboughs.outsiders import breaks, is_outsider, is_spared, spared
from tests.judging import wrong_parts
from tests.makings import AGAIN, FORESEEING, NEVER, NOTHING, X, all_good, some_outsider, some_wish
from tests.support import Case, bits, dice, junk_but

SEEING = ("outsider", X, (((0, 0), (1, 0)),))
LEFT = ("outsider", X, (((0, 0), (0, 0)),))


def rows(many, scope=()):
    """An outsider of so many rows, one behind the other, the last one leading to the first."""
    return ("outsider", scope, tuple(((0, (at + 1) % many),) * 2 ** len(scope) for at in range(many)))


def counting(many):
    """A wish of so many states, whose traces go from each of them to the next one, with no bad one."""
    return ("wish", (), tuple((0, ((((at + 1) % many,), ()),)) for at in range(many)))


def pairs_met(wish, outsider):
    """How many pairs of a row and a history are met."""
    ranks = tuple(rank for rank, _ in wish[2])
    pairs = [(0, first(ranks))]
    for row, history in pairs:
        for number in range(len(bits(wish[1]))):
            way, goal = outsider[2][row][number]
            step = tuple((q, r) for q, (_, goals) in enumerate(wish[2]) for r in goals[number][way])
            pair = (goal, led(ranks, history, step)[0])
            if pair not in pairs:
                pairs.append(pair)
    return len(pairs)


class ByHand(Case):
    def test_by_hand(self):
        self.assertIs(is_outsider(thing=SEEING), True)
        self.assertIs(breaks(wish=FORESEEING, outsider=SEEING), True)
        self.assertIsNone(spared(wish=FORESEEING, outsider=SEEING))
        self.assertIs(breaks(FORESEEING, LEFT), False)
        ahead, again = spared(FORESEEING, LEFT)
        self.assertEqual({*ahead, *again}, {X})
        self.assertIs(is_spared(wish=FORESEEING, outsider=LEFT, thing=((), (X,))), True)
        self.assertFalse(is_spared(FORESEEING, LEFT, ((), (X, ()))))
        self.assertFalse(is_spared(FORESEEING, LEFT, (((),), (X,))))
        for outsider in (SEEING, LEFT):
            self.assertTrue(breaks(NEVER, outsider))
            self.assertFalse(breaks(NOTHING, outsider))
            self.assertFalse(breaks(AGAIN, outsider))
        self.assertTrue(is_spared(AGAIN, LEFT, ((), ((), X))))
        self.assertTrue(is_spared(AGAIN, LEFT, ((X,), ((), X))))
        self.assertFalse(is_spared(AGAIN, LEFT, ((), (X, X, ()))))
        self.assertFalse(is_spared(AGAIN, LEFT, ((X, X), ((), X))))

    def test_again_has_letters(self):
        self.assertFalse(is_spared(NOTHING, LEFT, ((), ())))
        self.assertTrue(is_spared(NOTHING, LEFT, ((), ((),))))

    def test_more_rounds_of_the_outsider_than_of_the_letters(self):
        """The outsider takes a way just each third time, so a trace is bad, or not, behind three letters."""
        outsider = ("outsider", (), (((0, 1),), ((0, 2),), ((1, 0),)))
        wish = ("wish", (), ((0, (((0,), (1,)),)), (1, (((0,), ()),))))
        self.assertTrue(is_spared(wish, ("outsider", (), (((0, 0),),)), ((), ((),))))
        self.assertFalse(is_spared(wish, outsider, ((), ((),))))
        self.assertFalse(is_spared(wish, outsider, ((), ((), ()))))
        self.assertTrue(breaks(wish, outsider))
        self.assertTrue(breaks(wish, ("outsider", (), (((1, 1),), ((0, 0),)))))


class Hearts(Case):
    def test_broken_or_spared(self):
        chance = dice(520)
        seen = [0, 0]
        for _ in range(500):
            scope = chance.choice(((), X, X, ("a", "x")))
            wish = some_wish(chance, scope, chance.randint(1, 3), 4, chance.choice((0.3, 0.5)))
            outsider = some_outsider(chance, scope, chance.randint(1, 3))
            told = spared(wish, outsider)
            self.assertIs(breaks(wish, outsider), told is None)
            seen[told is None] += 1
            if told is not None:
                self.assertTrue(told[1])
                self.assertTrue(all_good(wish, outsider, *told))
                self.assertIs(is_spared(wish, outsider, told), True)
                continue
            known = bits(scope)
            for lead, loop in itertools.product(range(3), (1, 2)):
                thing = tuple(tuple(chance.choice(known) for _ in range(many)) for many in (lead, loop))
                self.assertFalse(all_good(wish, outsider, *thing))
                self.assertIs(is_spared(wish, outsider, thing), False)
        self.assertGreater(min(seen), 60)

    def test_judge_by_the_words(self):
        chance = dice(521)
        seen = [0, 0]
        for _ in range(1500):
            scope = chance.choice((X, ("a", "x")))
            wish = some_wish(chance, scope, chance.randint(1, 4), 4, 0.35)
            outsider = some_outsider(chance, scope, chance.randint(1, 4))
            known = bits(scope)
            thing = tuple(tuple(chance.choice(known) for _ in range(chance.randint(least, 3))) for least in (0, 1))
            fine = all_good(wish, outsider, *thing)
            seen[fine] += 1
            self.assertIs(is_spared(wish, outsider, thing), fine)
        self.assertGreater(min(seen), 200)


class Limits(Case):
    def test_limits(self):
        self.assertTrue(is_outsider(rows(400)))
        self.assertFalse(is_outsider(rows(401)))
        self.assertFalse(is_outsider(("outsider", (), ())))

    def test_400_pairs(self):
        """So many rows, and so many states: as many pairs as their least common multiple."""
        for wish, outsider, many in ((counting(4), rows(100), 100), (counting(8), rows(50), 200), (counting(8), rows(25), 200)):
            self.assertEqual(pairs_met(wish, outsider), many)
            self.assertFalse(breaks(wish, outsider))
        for states, many in ((1, 400), (2, 400), (8, 400), (1, 399), (5, 80), (12, 33), (11, 36), (12, 25), (12, 100)):
            self.assertFalse(breaks(counting(states), rows(many)))
            self.assertTrue(is_spared(counting(states), rows(many), spared(counting(states), rows(many))))
        for states, many in ((3, 400), (2, 399), (12, 133), (7, 58), (3, 134), (2, 201), (11, 37)):
            self.many(400, breaks, counting(states), rows(many))
            self.many(400, spared, counting(states), rows(many))
            self.assertTrue(is_spared(counting(states), rows(many), ((), ((),))))

    def test_400_pairs_and_401(self):
        """A lead of rows to a last one that stays: each of them is met with one history."""
        for many, fine in ((399, True), (400, True)):
            outsider = ("outsider", (), tuple(((0, min(at + 1, many - 1)),) for at in range(many)))
            self.assertIs(breaks(NEVER_OF_NONE, outsider), fine)
        # Behind its first step the history has a nest, so two more pairs are met where the rows go round.
        self.assertEqual(pairs_met(NEVER_OF_NONE, rows(399)), 400)
        self.assertTrue(breaks(NEVER_OF_NONE, rows(399)))
        self.many(400, breaks, NEVER_OF_NONE, rows(400))
        self.many(400, spared, NEVER_OF_NONE, rows(400))
        self.assertFalse(is_spared(NEVER_OF_NONE, rows(400), ((), ((),))))

    def test_soon(self):
        chance = dice(522)
        start = time.time()
        for _ in range(100):
            wish = some_wish(chance, X, 4, 5, 0.4)
            outsider = some_outsider(chance, X, 3)
            self.assertIs(spared(wish, outsider) is None, breaks(wish, outsider))
        self.assertLess(time.time() - start, 4)
        start = time.time()
        self.assertTrue(is_spared(counting(12), rows(400), (((),) * 100, ((),) * 100)))
        self.assertLess(time.time() - start, 4)


NEVER_OF_NONE = ("wish", (), ((1, (((0,), (0,)),)),))


class Errors(Case):
    def test_is_outsider(self):
        self.none_of(is_outsider, junk_but())
        self.none_of(is_outsider, [wrong for wrong in wrong_parts(SEEING) if "xs" not in repr(wrong)])
        for wrong in (
            ("outsider", (), (((0, 1),),)), ("outsider", (), (((2, 0),),)), ("outsider", (), (((0, 0), (0, 0)),)), ("outsider", X, (((0, 0),),)),
            ("outsider", (), ((0, 0),)), ("outsider", ("all",), (((0, 0), (0, 0)),)),
        ):
            self.assertIs(is_outsider(wrong), False)

    def test_errors(self):
        for function in (breaks, spared, lambda wish, outsider: is_spared(wish, outsider, None)):
            for thing in junk_but():
                self.fails(BadWish, function, thing, None)
                self.fails(BadOutsider, function, AGAIN, thing)
            self.fails(OtherScope, function, AGAIN, rows(400))
            self.fails(OtherScope, function, counting(12), LEFT)

    def test_any_value(self):
        self.none_of(lambda thing: is_spared(AGAIN, LEFT, thing), junk_but())
        told = (((), X), ((), X))
        self.assertTrue(is_spared(AGAIN, LEFT, told))
        self.none_of(lambda thing: is_spared(AGAIN, LEFT, thing), wrong_parts(told))
        self.none_of(lambda thing: is_spared(AGAIN, LEFT, thing), [
            ((), (("y",),)), ((), (["x"],)), ((), [()]), ([], ((),)), ((("x", "x"),), (X, ())), ((), "x"), ((), ("x",)), (None, (X,))])
