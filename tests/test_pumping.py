"""Point [47], with [6], [9], [42]."""

import time

from allboughs.errors import BadChoices, BadGuide, BadPlace, BadWood, OtherScope
from allboughs.grafting import grafted
from allboughs.guides import guide, is_guide
from allboughs.pumping import looped, state_at
from allboughs.woods import is_wood, least, node_at, within
from tests.judging import wrong_parts
from tests.support import Case, alike, choices_let, dice, junk_but, letters_to, some_choices, some_wood_of
from tests.test_choices import C

X = ("x",)
# x at the root alone, and its guide.
W = ("wood", X, ((X, 1, 1), ((), 1, 1)))
GUIDE = (((0, 0), (1, 1)), ((1, 1), (1, 1)))
LEFT = ("wood", X, ((X, 0, 1), ((), 1, 1)))


def row(many):
    """A wood of so many nodes, one behind the other by both ways, with x at the last one."""
    rows = tuple((X if at == many - 1 else (), min(at + 1, many - 1), min(at + 1, many - 1)) for at in range(many))
    return ("wood", X, rows)


def letter_at(wood, high, low, place):
    """The letter at a place of the looped wood: each time the place comes to low it stands at high again."""
    at = ()
    for way in place:
        at = at + (way,)
        if at == low:
            at = high
    return wood[2][node_at(wood, at)][0]


def run_of(wood, told, place):
    """The state that the run of a guide gives to a place."""
    pairs = dict(told)
    spot = (0, 0)
    for way in place:
        spot = (wood[2][spot[0]][1 + way], pairs[spot][way])
    return spot[1]


class ByHand(Case):
    def test_state_at(self):
        self.assertTrue(is_guide(C, W, GUIDE))
        self.assertEqual(state_at(choices=C, wood=W, guide=GUIDE, place=()), 0)
        for place in ((0,), (1,), (1, 0, 0, 1), (0,) * 200):
            self.assertEqual(state_at(C, W, GUIDE, place), 1)

    def test_looped(self):
        self.assertEqual(looped(wood=LEFT, high=(), low=(1,)), ("wood", X, ((X, 1, 0), (X, 1, 2), ((), 2, 2))))
        self.assertEqual(
            looped(LEFT, (0,), (0, 1, 1)), ("wood", X, ((X, 1, 2), (X, 3, 4), ((), 2, 2), (X, 3, 2), ((), 2, 1))))
        self.assertEqual(looped(W, (), (0,)), ("wood", X, ((X, 0, 1), ((), 1, 1))))
        self.assertEqual(looped(W, (0,), (0, 0)), ("wood", X, ((X, 1, 2), ((), 1, 2), ((), 2, 2))))

    def test_400_nodes(self):
        """A row of nodes, each but the last ones with a copy on the way to low."""
        wood = row(300)
        for ways, many in ((98, 398), (99, 399), (100, 400)):
            self.assertEqual(len(looped(wood, (), (0,) * ways)[2]), 300 + ways - 1)
            self.assertLessEqual(300 + ways - 1, many)
        self.assertEqual(len(looped(wood, (), (0,) * 101)[2]), 400)
        self.many(400, looped, wood, (), (0,) * 102)
        self.many(400, looped, row(400), (), (0, 0))
        self.assertEqual(len(looped(row(400), (), (0,))[2]), 400)
        self.assertEqual(len(looped(("wood", X, ((X, 0, 0),)), (1,) * 10, (1,) * 200)[2]), 201)


class Hearts(Case):
    def test_what_looped_tells(self):
        chance = dice(610)
        for _ in range(300):
            wood = some_wood_of(chance, X, chance.randint(1, 4))
            low = tuple(chance.randrange(2) for _ in range(chance.randint(1, 4)))
            high = low[:chance.randrange(len(low))]
            told = looped(wood, high, low)
            self.assertTrue(is_wood(told))
            self.assertEqual(within(told, ()), told)
            for place, letter in letters_to(told, 7).items():
                self.assertEqual(letter, letter_at(wood, high, low, place))
            # It is the only tree that is itself again, with the tree at high in the place of that at low.
            self.assertTrue(alike(told, grafted(told, low, within(told, high))))
            self.assertEqual(least(within(told, low)), least(within(told, high)))

    def test_pumping(self):
        chance = dice(611)
        both = turned = 0
        while turned < 40 or both < 150:
            choices = some_choices(chance, X, chance.randint(1, 3), 4, 3)
            wood = some_wood_of(chance, X, chance.randint(1, 4))
            told = guide(choices, wood)
            if told is None:
                continue
            low = tuple(chance.randrange(2) for _ in range(chance.randint(0, 4)))
            high = low[:chance.randrange(len(low))] if low and chance.random() < 0.7 else tuple(chance.randrange(2) for _ in range(2))
            states = [run_of(wood, told, place) for place in (high, low)]
            self.assertEqual([state_at(choices, wood, told, place) for place in (high, low)], states)
            if states[0] != states[1]:
                continue
            both += 1
            for one, other in ((high, low), (low, high)):
                self.assertTrue(choices_let(choices, grafted(wood, one, within(wood, other))))
            if len(low) > len(high) and low[:len(high)] == high:
                ranks = [choices[2][run_of(wood, told, low[:many])][0] for many in range(len(high), len(low) + 1)]
                if max(ranks) % 2 == 0:
                    turned += 1
                    self.assertTrue(choices_let(choices, looped(wood, high, low)))

    def test_an_odd_greatest_rank_is_not_enough(self):
        """The rank 1 of the first state of C, put off for ever."""
        wood = ("wood", X, (((), 1, 1), (X, 1, 1)))
        told = guide(C, wood)
        self.assertEqual(state_at(C, wood, told, (0,)), 0)
        self.assertTrue(choices_let(C, wood))
        self.assertFalse(choices_let(C, looped(wood, (), (0,))))

    def test_soon(self):
        wide = ("choices", (), ((0, (tuple((at, at) for at in range(20)),)),) * 20)
        ring = ("wood", (), tuple(((), (at + 1) % 400, at) for at in range(400)))
        told = guide(wide, ring)
        start = time.time()
        self.assertEqual(state_at(wide, ring, told, ()), 0)
        self.assertEqual(state_at(wide, ring, told, (0, 1) * 100), run_of(ring, told, (0, 1) * 100))
        self.assertLess(time.time() - start, 3)


class Errors(Case):
    def test_errors(self):
        for thing in junk_but():
            self.fails(BadChoices, state_at, thing, None, None, None)
            self.fails(BadWood, state_at, C, thing, None, None)
            self.fails(BadWood, looped, thing, None, None)
        self.fails(OtherScope, state_at, C, ("wood", (), (((), 0, 0),)), None, None)
        wide = ("choices", X, ((0, ((), ())),) * 51)
        self.many(20000, state_at, wide, row(400), None, None)

    def test_bad_guide(self):
        for thing in junk_but() + wrong_parts(GUIDE) + [GUIDE[:1], GUIDE[1:], (((0, 0), (0, 0)), ((1, 0), (0, 0)))]:
            self.fails(BadGuide, state_at, C, W, thing, None)
        self.fails(BadGuide, state_at, C, ("wood", X, (((), 0, 0),)), (((0, 0), (0, 0)),), ())

    def test_bad_place(self):
        for thing in junk_but((), (0,), (0, 0)):
            self.fails(BadPlace, state_at, C, W, GUIDE, thing)
            self.fails(BadPlace, looped, W, thing, None)
            self.fails(BadPlace, looped, W, (), thing)
        for thing in ((2,), (True,), (0, -1), [0], "0", (0, None), ((0,),)):
            self.fails(BadPlace, state_at, C, W, GUIDE, thing)
            self.fails(BadPlace, looped, W, thing, thing)
            self.fails(BadPlace, looped, W, (), thing)
        for high, low in (((), ()), ((0,), (0,)), ((0,), ()), ((0,), (1,)), ((0,), (1, 0)), ((0, 1), (0, 0, 1)), ((0, 1), (0,))):
            self.fails(BadPlace, looped, W, high, low)
        self.fails(BadPlace, looped, row(400), (0,), (1, 1, 1))
