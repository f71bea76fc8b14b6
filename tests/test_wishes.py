"""Point [70]."""

import time

from allboughs.errors import BadWish, BadWood, OtherScope
from allboughs.wishes import both, breach, is_breach, is_wish, keeps
from tests.judging import wrong_parts
from tests.makings import AGAIN, FORESEEING, NEVER, NOTHING, X, good_breach, is_kept, some_wish
from tests.support import Case, dice, junk_but, some_wood_of

BARE = ("wood", X, (((), 0, 0),))
FULL = ("wood", X, ((X, 0, 0),))
TURNS = ("wood", X, (((), 1, 1), (X, 0, 0)))


def line(many, scope=()):
    """A wish of so many states, one leading to the next one on the left way, the last one to itself."""
    letters = 2 ** len(scope)
    return ("wish", scope, tuple((at % 10, (((min(at + 1, many - 1),), ()),) * letters) for at in range(many)))


class ByHand(Case):
    def test_by_hand(self):
        self.assertIs(keeps(wish=AGAIN, wood=TURNS), True)
        self.assertIsNone(breach(wish=AGAIN, wood=TURNS))
        self.assertIs(keeps(AGAIN, BARE), False)
        self.assertEqual(max(AGAIN[2][state][0] for _, state in breach(AGAIN, BARE)[1]), 1)
        self.assertFalse(keeps(AGAIN, FULL))
        self.assertIs(is_breach(wish=AGAIN, wood=FULL, thing=(((0, 1), (0, 2)), ((1, 2),))), True)
        for wood in (BARE, FULL, TURNS):
            self.assertFalse(keeps(FORESEEING, wood))
            self.assertTrue(keeps(NOTHING, wood))
            self.assertFalse(keeps(NEVER, wood))

    def test_a_trace_that_ends_is_no_endless_one(self):
        wish = ("wish", X, ((1, (((0,), ()), ((), ()))),))
        self.assertFalse(keeps(wish, BARE))
        self.assertTrue(keeps(wish, FULL))
        self.assertTrue(keeps(wish, ("wood", X, (((), 1, 0), (X, 1, 1)))))
        self.assertFalse(keeps(wish, ("wood", X, (((), 0, 1), (X, 1, 1)))))

    def test_breaches(self):
        self.assertTrue(is_breach(NEVER, BARE, ((), ((0, 0),))))
        self.assertTrue(is_breach(NEVER, BARE, (((1, 0), (0, 0)), ((0, 0), (1, 0)))))
        self.assertFalse(is_breach(NEVER, BARE, (((1, 0),), ())))
        self.assertFalse(is_breach(AGAIN, TURNS, ((), ((0, 0),))))
        # The loop comes back to the state, not to the node, and the other way round.
        self.assertFalse(is_breach(NEVER, TURNS, ((), ((0, 0),))))
        self.assertTrue(is_breach(NEVER, TURNS, ((), ((0, 0), (0, 0)))))
        self.assertFalse(is_breach(AGAIN, FULL, ((), ((0, 1),))))
        self.assertFalse(is_breach(AGAIN, FULL, (((0, 1),), ((0, 2),))))
        # An even greatest rank.
        self.assertFalse(is_breach(AGAIN, TURNS, ((), ((0, 0), (0, 1)))))
        # Steps that no trace takes.
        self.assertFalse(is_breach(AGAIN, BARE, (((0, 1),), ((0, 2),))))

    def test_both(self):
        told = both(one=AGAIN, other=NEVER)
        self.assertEqual(told[2][0], (0, (((1, 4), (1, 4)), ((2, 4), (2, 4)))))
        self.assertEqual(told[2][2], (2, (((1,), (1,)), ((3,), (3,)))))
        self.assertEqual(told[2][4], (1, (((4,), (4,)), ((4,), (4,)))))
        self.assertEqual(len(told[2]), 5)


class Hearts(Case):
    def test_just_one_of_both(self):
        chance = dice(510)
        seen = [0, 0]
        for _ in range(800):
            scope = chance.choice(((), X, X, ("a", "x")))
            wish = some_wish(chance, scope, chance.randint(1, 5), 5, chance.choice((0.15, 0.3)))
            wood = some_wood_of(chance, scope, chance.randint(1, 5))
            fine = is_kept(wish, wood)
            seen[fine] += 1
            self.assertIs(keeps(wish, wood), fine)
            told = breach(wish, wood)
            self.assertIs(told is None, fine)
            if told is not None:
                self.assertTrue(good_breach(wish, wood, told))
                self.assertIs(is_breach(wish, wood, told), True)
        self.assertGreater(min(seen), 200)

    def test_judge_by_the_words(self):
        chance = dice(511)
        seen = [0, 0]
        for _ in range(5000):
            wish = some_wish(chance, X, 2, 3, 0.6)
            wood = some_wood_of(chance, X, 2)
            thing = [tuple((chance.randrange(2), chance.randrange(2)) for _ in range(chance.randint(0, 2))) for _ in range(2)]
            fine = good_breach(wish, wood, thing)
            seen[fine] += 1
            self.assertIs(is_breach(wish, wood, tuple(thing)), fine)
            self.assertFalse(fine and keeps(wish, wood))
        self.assertGreater(min(seen), 100)

    def test_both_are_kept_by_what_keeps_both(self):
        chance = dice(512)
        seen = {}
        for _ in range(500):
            one, other = [some_wish(chance, X, chance.randint(1, 4), 4, 0.2) for _ in range(2)]
            wood = some_wood_of(chance, X, chance.randint(1, 4))
            told = both(one, other)
            self.assertTrue(is_wish(told))
            mine, theirs = is_kept(one, wood), is_kept(other, wood)
            self.assertIs(keeps(told, wood), mine and theirs)
            seen[mine, theirs] = seen.get((mine, theirs), 0) + 1
        self.assertEqual(len(seen), 4)
        self.assertGreater(min(seen.values()), 20)


class Limits(Case):
    def test_limits(self):
        self.assertTrue(is_wish(thing=line(12)))
        self.assertFalse(is_wish(line(13)))
        self.assertTrue(is_wish(("wish", (), ((9, (((), ()),)),))))
        self.assertFalse(is_wish(("wish", (), ((10, (((), ()),)),))))
        self.assertFalse(is_wish(("wish", (), ())))
        self.assertTrue(is_wish(both(line(5), line(6))))
        self.assertEqual(len(both(line(5), line(6))[2]), 12)
        self.many(12, both, line(6), line(6))
        self.many(12, both, line(12), line(12))

    def test_soon(self):
        chance = dice(513)
        scope = ("x", "y", "z")
        wish = some_wish(chance, scope, 12, 10, 0.5)
        wood = some_wood_of(chance, scope, 400)
        start = time.time()
        told = breach(wish, wood)
        self.assertIs(told is None, keeps(wish, wood))
        self.assertTrue(told is None or is_breach(wish, wood, told))
        self.assertTrue(keeps(line(12), ("wood", (), tuple(((), (at + 1) % 400, at) for at in range(400)))) is False)
        self.assertLess(time.time() - start, 5)


class Errors(Case):
    def test_is_wish(self):
        self.none_of(is_wish, junk_but() + [wrong for wrong in wrong_parts(AGAIN) if "xs" not in repr(wrong)])
        for wrong in (
            ["wish", X, AGAIN[2]], ("Wish", X, AGAIN[2]), ("wish", ("x", "y"), AGAIN[2]), ("wish", (), AGAIN[2]),
            ("wish", ("y", "x"), line(1, ("x", "y"))[2]), ("wish", X, list(AGAIN[2])), ("wish", (), ((0, (((1,), ()),)),)),
            ("wish", (), ((0, (((0, 0), ()),)),)), ("wish", (), ((0, (((), (True,)),)), (0, (((), ()),)))), ("wish", (), ((True, (((), ()),)),)),
            ("wish", (), ((0, ((0, ()),)),)), ("wish", (), ((0, (((1, 0), ()),)), (0, (((), ()),)))), ("wish", (), ((0, (((), (), ()),)),)),
        ):
            self.assertIs(is_wish(wrong), False, wrong)

    def test_errors(self):
        for function in (keeps, breach):
            for thing in junk_but():
                self.fails(BadWish, function, thing, None)
                self.fails(BadWood, function, AGAIN, thing)
            self.fails(OtherScope, function, AGAIN, ("wood", (), (((), 0, 0),)))
        for thing in junk_but():
            self.fails(BadWish, is_breach, thing, None, None)
            self.fails(BadWood, is_breach, AGAIN, thing, None)
            self.fails(BadWish, both, thing, None)
            self.fails(BadWish, both, AGAIN, thing)
        self.fails(OtherScope, is_breach, AGAIN, ("wood", (), (((), 0, 0),)), None)
        self.fails(OtherScope, both, line(12), line(12, X))

    def test_any_value(self):
        told = (((0, 1),), ((0, 2), (1, 2)))
        fine = (((0, 1), (0, 2)), ((0, 2), (1, 2)))
        self.assertTrue(is_breach(AGAIN, FULL, fine))
        self.assertFalse(is_breach(AGAIN, FULL, told))
        self.none_of(lambda thing: is_breach(AGAIN, FULL, thing), junk_but())
        self.none_of(lambda thing: is_breach(AGAIN, FULL, thing), wrong_parts(fine))
