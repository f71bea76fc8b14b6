"""Points [72], [73], [74] and [75], with [30], [32], [33] for the histories that are met."""

import itertools
import time

from allboughs.errors import BadLetters, BadMost, BadWish, OtherScope, TooMany
from allboughs.histories import first, led
from allboughs.makers import allowed, begun, follows, least_maker, settled
from allboughs.outsiders import breaks, is_outsider
from allboughs.pairgames import Pursuit
from allboughs.wishes import both, keeps
from allboughs.wishgames import WishGame
from allboughs.woods import is_wood
from tests.makings import (
    AGAIN, FORESEEING, NEVER, NOTHING, PLACES, X, is_kept, letters_at, some_wish,
)
from tests.meanings import all_woods, reached
from tests.support import Case, bits, dice, junk_but
from tests.test_compiling import told_or_most

Y = ("a", "x")
XYZ = ("x", "y", "z")
KEPT_BY_ALL = ("wish", X, ((0, (((0,), (0,)), ((0,), (0,)))),))

# That never again, from some place on, three places without x are one behind the other.
NOT_THRICE_AGAIN = ("wish", X, (
    (0, (((0, 1), (0, 1)), ((0,), (0,)))), (0, (((2,), (2,)), ((0,), (0,)))), (3, (((0,), (0,)), ((), ())))))

# Pairs of wishes for which no step, of a history and a state, tells both ranks that make a road one of both kinds.
APART = (
    (("wish", X, (
        (2, (((2,), (2,)), ((), ()))), (4, (((2, 3), (1, 3)), ((), (2, 3)))), (0, (((2,), ()), ((0, 3), ()))),
        (3, (((0, 2), ()), ((0,), (2,)))))),
     ("wish", X, (
         (1, (((2, 3), (1, 2)), ((2,), (2,)))), (4, (((0, 1), (2, 3)), ((), (0, 2)))), (3, (((1,), (0, 1)), ((), (0, 1, 3)))),
         (3, (((2,), (1, 3)), ((2,), (2,))))))),
    (("wish", X, ((4, (((), ()), ((2,), (1,)))), (1, (((0, 2), (2,)), ((0, 1), (1,)))), (2, (((2,), ()), ((), ()))))),
     ("wish", X, (
         (3, (((1, 3), (1, 3)), ((), (3,)))), (1, (((), (0, 1, 3)), ((1,), (0, 3)))), (4, (((), (0, 3)), ((0,), (2,)))),
         (0, (((), (0, 1, 2)), ((1, 2, 3), (0, 3))))))),
    (("wish", X, (
        (4, (((), (0, 2)), ((1, 2), ()))), (0, (((2,), (1, 2)), ((0, 3), (0, 1, 2)))), (0, (((0, 1, 2, 3), (0, 3)), ((3,), (0, 1, 3)))),
        (1, (((), ()), ((), (0, 1, 2)))))),
     ("wish", X, (
         (4, (((), (0, 1)), ((0,), ()))), (1, (((2,), (0,)), ((1, 2), (3,)))), (0, (((), (2,)), ((3,), (0, 1)))),
         (3, (((), (0, 3)), ((), ())))))),
    (AGAIN, NOT_THRICE_AGAIN), (both(AGAIN, NOTHING), NOT_THRICE_AGAIN),
    # That never again nothing is bare: the one road that goes around by a step of its own is no good for the one wish.
    (AGAIN, ("wish", X, ((3, (((0,), (0,)), ((1,), (1,)))), (0, (((0,), (0,)), ((1,), (1,))))))),
    (("wish", X, ((1, (((0,), (0,)), ((1,), (1,)))), (2, (((0,), (0,)), ((1,), (1,)))))),
     ("wish", X, ((0, (((1,), (1,)), ((0,), (0,)))), (3, (((1,), (1,)), ((0,), (0,))))))),
)


def steps(wish):
    """The steps of the letters and ways, left ahead of right, letter by letter."""
    rows = wish[2]
    return [
        [tuple((q, r) for q, (_, goals) in enumerate(rows) for r in goals[number][way]) for way in (0, 1)]
        for number in range(2 ** len(wish[1]))]


def histories_met(wish, most=401):
    """The histories that are met by the steps of the letters and ways, at most so many."""
    ranks = tuple(rank for rank, _ in wish[2])
    met, known = [first(ranks)], {first(ranks)}
    for history in met:
        for step in [step for pair in steps(wish) for step in pair]:
            told = led(ranks, history, step)[0]
            if told not in known and len(met) < most:
                met.append(told)
                known.add(told)
    return met


def counting(many):
    """A wish by which each lot of the states but the first one, which stays reached, can be reached.

    The letters and ways move all on by one, do nothing, add the state 1, or leave it out.
    """
    rows = [(0, (((0,), (0,)), ((0, 1), (0,))))]
    for at in range(1, many):
        rows.append((0, (((at % (many - 1) + 1,), (at,)), ((at,), () if at == 1 else (at,)))))
    return ("wish", X, tuple(rows))


def just_this(wood, share, chance):
    """A wish that asks for the letters of a wood, but for some of them."""
    bad = len(wood[2])
    rows = []
    for letter, left, right in wood[2]:
        goals = []
        for other in bits(wood[1]):
            fine = other == letter or chance.random() < share
            goals.append(((left,), (right,)) if fine else ((bad,), (bad,)))
        rows.append((0, tuple(goals)))
    return ("wish", wood[1], (*rows, (1, (((bad,), (bad,)),) * len(bits(wood[1])))))


def settled_wish(chance, scope, many, ranks, share=0.3):
    """A wish for which no more than 400 histories are met."""
    while True:
        wish = some_wish(chance, scope, many, ranks, share)
        if not isinstance(told_or_most(settled, wish), int):
            return wish


def numbered_anew(wood):
    """All woods that are this one but for the numbers of nodes other than 0."""
    rows = wood[2]
    for order in itertools.permutations(range(1, len(rows))):
        new = {0: 0}
        new.update({old: at + 1 for at, old in enumerate(order)})
        told = sorted((new[at], (letter, new[left], new[right])) for at, (letter, left, right) in enumerate(rows))
        yield ("wood", wood[1], tuple(row for _, row in told))


def maker_by_trying(wish, most):
    """The wood of fewest nodes, the first one as a tuple, all nodes of which can be come to, that keeps a wish."""
    for many in range(1, most + 1):
        fine = [wood for wood in all_woods(wish[1], many) if len(reached(wood)) == many and is_kept(wish, wood)]
        if fine:
            return min(fine)
    return None


def may_begin(rows, scope, letters):
    """Whether letters are allowed along their places, told what allowed tells."""
    if not rows:
        return False
    stands = [0]
    for at, letter in enumerate(letters):
        behind = rows[stands[at]][bits(scope).index(letter)]
        if behind is None:
            return False
        stands.extend(behind)
    return True


class ByHand(Case):
    def test_settled(self):
        word, outsider = settled(wish=FORESEEING)
        self.assertEqual(word, "outsider")
        self.assertTrue(breaks(FORESEEING, outsider))
        word, wood = settled(AGAIN)
        self.assertEqual(word, "maker")
        self.assertTrue(keeps(AGAIN, wood))
        self.assertEqual(settled(NEVER)[0], "outsider")
        self.assertEqual(settled(NOTHING)[0], "maker")

    def test_least_maker(self):
        told = ("wood", X, (((), 1, 1), (X, 0, 0)))
        self.assertEqual(least_maker(wish=AGAIN, most=2), told)
        self.assertEqual(least_maker(AGAIN, 3), told)
        self.assertIsNone(least_maker(AGAIN, 1))
        self.assertIsNone(least_maker(NEVER, 3))
        self.assertEqual(least_maker(NOTHING, 1), ("wood", X, (((), 0, 0),)))

    def test_a_numbering_of_nodes_that_is_no_walk(self):
        """Of woods that differ in the numbers of nodes alone the first one as a tuple is told."""
        # The root bears nothing, its left child x, its right one nothing, and so on below as it was there.
        wish = ("wish", X, (
            (0, (((1,), (2,)), ((3,), (3,)))), (0, (((3,), (3,)), ((1,), (1,)))), (0, (((2,), (1,)), ((3,), (3,)))),
            (1, (((3,), (3,)), ((3,), (3,)))),
        ))
        told = least_maker(wish, 3)
        self.assertEqual(told, maker_by_trying(wish, 3))
        self.assertEqual(told, min(numbered_anew(told)))

    def test_follows(self):
        self.assertIsNone(follows(one=AGAIN, other=AGAIN))
        self.assertIsNone(follows(AGAIN, NOTHING))
        self.assertIsNone(follows(NEVER, FORESEEING))
        for one, other in ((NOTHING, AGAIN), (AGAIN, NEVER), (AGAIN, FORESEEING), (KEPT_BY_ALL, AGAIN)):
            told = follows(one, other)
            self.assertTrue(keeps(one, told))
            self.assertFalse(keeps(other, told))

    def test_allowed(self):
        self.assertEqual(allowed(wish=NEVER), ())
        self.assertEqual(allowed(FORESEEING), ())
        self.assertEqual(allowed(NOTHING), (((1, 1), (1, 1)), ((1, 1), (1, 1))))
        self.assertEqual(allowed(KEPT_BY_ALL), (((0, 0), (0, 0)),))
        rows = allowed(AGAIN)
        self.assertEqual([[pair is None for pair in row] for row in rows], [[False, False], [False, False], [False, True]])
        # The first history is left for one with a nest, so there are three: ahead, behind no x, behind x.
        self.assertEqual(rows, (((1, 1), (2, 2)), ((1, 1), (2, 2)), ((1, 1), None)))

    def test_begun(self):
        self.assertIsNone(begun(AGAIN, (X, X, ())))
        self.assertIsNone(begun(wish=AGAIN, letters=(X, (), X)))
        for letters in ((), (X,), ((),), (X, (), ()), ((), X, X), ((), X, X, (), (), (), ()), (X, (), (), (), X, (), X)):
            told = begun(AGAIN, letters)
            self.assertTrue(keeps(AGAIN, told))
            self.assertEqual(letters_at(told, len(letters)), letters)
        # Not allowed at the last place only.
        self.assertIsNone(begun(AGAIN, (X, (), (), (), X, (), X) + ((),) * 7 + (X,)))
        self.assertIsNotNone(begun(AGAIN, (X, (), (), (), X, (), X) + ((),) * 8))
        self.assertIsNone(begun(AGAIN, ((), (), ()) + ((),) * 11 + (X,)) and None)
        for letters in ((), (X,)):
            self.assertIsNone(begun(NEVER, letters))

    def test_15_letters(self):
        told = begun(KEPT_BY_ALL, tuple((X, ())[at % 3 == 0] for at in range(15)))
        self.assertEqual(letters_at(told, 15), tuple((X, ())[at % 3 == 0] for at in range(15)))


class Hearts(Case):
    def test_maker_or_outsider(self):
        chance = dice(530)
        seen = {"maker": 0, "outsider": 0}
        for _ in range(400):
            scope = chance.choice(((), X, X, Y))
            wish = settled_wish(chance, scope, chance.randint(1, 4), 5, chance.choice((0.2, 0.3, 0.5)))
            word, thing = settled(wish)
            seen[word] += 1
            self.assertLessEqual(len(thing[2]), len(histories_met(wish)))
            if word == "maker":
                self.assertTrue(is_wood(thing))
                self.assertTrue(is_kept(wish, thing))
            else:
                self.assertTrue(is_outsider(thing))
                self.assertTrue(breaks(wish, thing))
                self.assertIsNone(least_maker(wish, 2))
                self.assertEqual(allowed(wish), ())
                self.assertIsNone(begun(wish, ()))
        self.assertGreater(min(seen.values()), 60)

    def test_least_maker_by_trying(self):
        chance = dice(531)
        found = [0, 0, 0, 0]
        for _ in range(60):
            wish = settled_wish(chance, chance.choice(((), X)), chance.randint(1, 4), 4, 0.25)
            most = chance.choice((1, 2, 2))
            told = least_maker(wish, most)
            self.assertEqual(told, maker_by_trying(wish, most))
            found[0 if told is None else len(told[2])] += 1
        self.assertGreater(min(found[:3]), 0)

    def test_least_makers_of_three_nodes(self):
        """A wish that is kept by one tree alone, or, with some letters left open, by some more."""
        chance = dice(532)
        woods = sorted(wood for wood in all_woods(X, 3) if len(reached(wood)) == 3)
        met = 0
        for _ in range(30):
            wish = just_this(chance.choice(woods), chance.choice((0, 0.2)), chance)
            told = least_maker(wish, 3)
            self.assertTrue(is_kept(wish, told))
            if len(told[2]) == 3:
                met += 1
                self.assertIsNone(maker_by_trying(wish, 2))
                self.assertFalse(any(keeps(wish, wood) for wood in woods[:woods.index(told)]))
        self.assertGreater(met, 10)

    def test_follows(self):
        chance = dice(533)
        seen = [0, 0]
        for _ in range(300):
            scope = chance.choice(((), X, X, Y))
            one, other = [settled_wish(chance, scope, chance.randint(1, 3), 4, chance.choice((0.2, 0.35))) for _ in range(2)]
            told = follows(one, other)
            seen[told is None] += 1
            if told is not None:
                self.assertTrue(is_wood(told))
                self.assertTrue(is_kept(one, told))
                self.assertFalse(is_kept(other, told))
                continue
            if len(scope) < 2:
                for many in (1, 2):
                    for wood in all_woods(scope, many):
                        self.assertFalse(is_kept(one, wood) and not is_kept(other, wood))
        self.assertGreater(min(seen), 60)

    def test_follows_where_no_step_does_all(self):
        """The road goes around by a step that is good for the one wish, and by another one that is bad for the other."""
        for one, other in APART:
            told = follows(one, other)
            self.assertTrue(is_kept(one, told))
            self.assertFalse(is_kept(other, told))
            game = WishGame(one)
            lead, loop = Pursuit(game, other[2]).found_road()
            stands = [history for history, _, _ in lead + loop + loop[:1]]
            behind = [game.onward[history][letter][way] for history, letter, way in lead + loop]
            self.assertEqual(stands[1:], [history for history, _ in behind])
            self.assertEqual(max(rank for _, rank in behind[len(lead):]) % 2, 0)

    def test_follows_of_both(self):
        chance = dice(534)
        for _ in range(80):
            one, other = [settled_wish(chance, X, chance.randint(1, 3), 4, 0.3) for _ in range(2)]
            joined = both(one, other)
            if isinstance(told_or_most(settled, joined), int):
                continue
            self.assertIsNone(follows(joined, one))
            self.assertIsNone(follows(joined, other))
            self.assertIsNone(follows(one, one))
            self.assertIs(follows(one, joined) is None, follows(one, other) is None)

    def test_allowed_and_begun(self):
        chance = dice(535)
        seen = [0, 0]
        for _ in range(150):
            scope = chance.choice(((), X, X, Y))
            wish = settled_wish(chance, scope, chance.randint(1, 3), 4, chance.choice((0.2, 0.3)))
            rows = allowed(wish)
            self.assertIs(bool(rows), settled(wish)[0] == "maker")
            for many in (0, 1, 3, 7, 15):
                letters = tuple(chance.choice(bits(scope)) for _ in range(many))
                told = begun(wish, letters)
                fine = may_begin(rows, scope, letters)
                seen[fine] += 1
                self.assertIs(told is not None, fine)
                if fine:
                    self.assertTrue(is_wood(told))
                    self.assertTrue(is_kept(wish, told))
                    self.assertEqual(letters_at(told, many), letters)
        self.assertGreater(min(seen), 120)

    def test_rows_of_allowed(self):
        """The rows by the words of [75], told which histories are kept by begun of what begins with them."""
        chance = dice(536)
        met = 0
        for _ in range(60):
            wish = settled_wish(chance, X, chance.randint(1, 4), 4, 0.3)
            ranks = tuple(rank for rank, _ in wish[2])
            # A history is kept if each letter and way from it on can be gone: the greatest lot of which this is so,
            # told rank by rank as a game; here by makers that begin with it, tried by all woods of two nodes.
            rows = allowed(wish)
            order, expected = [first(ranks)] if rows else [], []
            for history in order:
                row = []
                for number, pair in enumerate(rows[len(expected)]):
                    told = [led(ranks, history, steps(wish)[number][way])[0] for way in (0, 1)]
                    if pair is None:
                        row.append(None)
                        continue
                    for one in told:
                        if one not in order:
                            order.append(one)
                    row.append(tuple(order.index(one) for one in told))
                expected.append(tuple(row))
            self.assertEqual(rows, tuple(expected))
            met += len(rows) > 2
        self.assertGreater(met, 10)

    def test_no_maker_puts_another_letter(self):
        chance = dice(537)
        met = 0
        for _ in range(200):
            wish = settled_wish(chance, X, chance.randint(1, 3), 4, 0.3)
            rows = allowed(wish)
            for wood in all_woods(X, 2)[::7]:
                if is_kept(wish, wood):
                    met += 1
                    self.assertTrue(may_begin(rows, X, letters_at(wood, len(PLACES))))
        self.assertGreater(met, 100)


class Limits(Case):
    def test_400_histories(self):
        wish = counting(12)
        self.assertGreater(len(histories_met(wish)), 400)
        for function, row in ((settled, (wish,)), (allowed, (wish,)), (begun, (wish, ())), (follows, (wish, KEPT_BY_ALL))):
            self.many(400, function, *row)
        self.assertIsNone(follows(KEPT_BY_ALL, wish))
        self.assertEqual(len(histories_met(counting(9))), 256)
        self.assertEqual(settled(counting(9))[0], "maker")

    def test_as_many_histories_as_may_be(self):
        """Told or TooMany by the number of histories that are met."""
        chance = dice(538)
        seen = [0, 0]
        for _ in range(40):
            wish = some_wish(chance, X, chance.randint(4, 6), 5, 0.35)
            fine = len(histories_met(wish)) <= 400
            seen[fine] += 1
            try:
                word, thing = settled(wish)
            except TooMany as error:
                self.assertFalse(fine)
                self.assertEqual(error.most, 400)
            else:
                self.assertTrue(fine)
                self.assertTrue(keeps(wish, thing) if word == "maker" else breaks(wish, thing))
        self.assertGreater(min(seen), 3)

    def test_6000(self):
        """(n * most * most) ** most is 5832 for two letters and 3, 46656 for four letters and 3."""
        self.assertIsNone(least_maker(NEVER, 3))
        for scope, most, fine in (((), 3, True), (X, 3, True), (Y, 2, True), (Y, 3, False), (XYZ, 2, True), (XYZ, 3, False)):
            wish = ("wish", scope, ((1, (((0,), (0,)),) * 2 ** len(scope)),))
            if fine:
                self.assertIsNone(least_maker(wish, most))
            else:
                self.many(6000, least_maker, wish, most)
                self.many(6000, least_maker, ("wish", scope, ((0, (((0,), (0,)),) * 2 ** len(scope)),)), most)

    def test_soon(self):
        chance = dice(539)
        start = time.time()
        self.assertIsNone(least_maker(("wish", X, tuple((1, ((tuple(range(12)),) * 2,) * 2) for _ in range(12))), 3))
        wide = ("wish", XYZ, tuple((at % 4, ((((at + 1) % 5,), (at,)),) * 8) for at in range(5)))
        self.assertIn(settled(wide)[0], ("maker", "outsider"))
        self.assertLess(time.time() - start, 8)
        start = time.time()
        for _ in range(50):
            one, other = [settled_wish(chance, X, 4, 5, 0.3) for _ in range(2)]
            settled(one)
            follows(one, other)
            allowed(one)
            begun(one, (X, (), X))
        self.assertLess(time.time() - start, 6)


class Errors(Case):
    def test_errors(self):
        for thing in junk_but():
            for function in (settled, allowed):
                self.fails(BadWish, function, thing)
            for function in (least_maker, begun):
                self.fails(BadWish, function, thing, None)
            self.fails(BadWish, follows, thing, None)
            self.fails(BadWish, follows, AGAIN, thing)
        self.fails(OtherScope, follows, counting(12), ("wish", (), ((0, (((), ()),)),)))

    def test_bad_most(self):
        wide = ("wish", XYZ, ((0, (((), ()),) * 8),))
        for thing in junk_but(1, 2, 3) + [4, -1, 10 ** 20, "1"]:
            self.fails(BadMost, least_maker, wide, thing)

    def test_bad_letters(self):
        wish = counting(12)
        for thing in junk_but((), ((),)) + [
            (X, X), (X,) * 2, ((),) * 4, ((),) * 16, ((),) * 8, [()], ((), (), ["x"]), (("y",),), ((), X, ("x", "x")), (X, (), "x"), "xxx",
            (None,), (X, X, None), ((), (), (("x",),)), ((True,),),
        ]:
            self.fails(BadLetters, begun, wish, thing)
