"""Point [43]."""

import itertools

from allboughs.choices import is_choices, tidied
from allboughs.errors import BadChoices, BadName, BadWood, OtherScope
from allboughs.hiding import hidden, marked
from allboughs.woods import is_wood, least
from tests.support import Case, alike, choices_let, dice, junk_but, some_choices, some_wood_of
from tests.test_choices import C, PAIRS

BARE = ("wood", (), (((), 0, 0),))
C1 = ("choices", (), ((1, (((0, 0), (1, 1)),)), (0, (((1, 1),),))))


def without(wood, name):
    """A wood without the marks of a name."""
    rows = tuple((tuple(x for x in row[0] if x != name), *row[1:]) for row in wood[2])
    return ("wood", tuple(x for x in wood[1] if x != name), rows)


def unfolded(wood, times):
    """A wood alike to this one in which each node stands so many times, one behind the other."""
    many = len(wood[2])
    rows = []
    for time in range(times):
        behind = min(time + 1, times - 1)
        rows.extend((letter, left + behind * many, right + behind * many) for letter, left, right in wood[2])
    return ("wood", wood[1], tuple(rows))


def markings(wood, name):
    """All woods with marks of a name on the nodes of a wood."""
    scope = tuple(sorted([*wood[1], name]))
    for marks in itertools.product((False, True), repeat=len(wood[2])):
        rows = []
        for mark, (letter, left, right) in zip(marks, wood[2]):
            rows.append((tuple(sorted([*letter, name])) if mark else letter, left, right))
        yield ("wood", scope, tuple(rows))


def circle(many, apart):
    """Choices whose states go round, and want x just at each state whose number can be divided so."""
    rows = []
    for at in range(many):
        pairs = (((at + 1) % many, (at + 1) % many),)
        rows.append((0, (() if at % apart == 0 else pairs, pairs if at % apart == 0 else ()) * 2))
    return ("choices", ("x", "y"), tuple(rows))


class Hidden(Case):
    def test_by_hand(self):
        self.assertEqual(hidden(C, "x"), C1)
        self.assertEqual(hidden(choices=C, name="x"), C1)

    def test_letters_keep_their_order(self):
        lists = tuple(((at, at),) for at in range(8))
        choices = ("choices", ("a", "b", "c"), ((0, lists), *[(0, ((),) * 8)] * 7))
        for name, twins in (("a", ((0, 1), (2, 3), (4, 5), (6, 7))), ("b", ((0, 2), (1, 3), (4, 6), (5, 7))),
                            ("c", ((0, 4), (1, 5), (2, 6), (3, 7)))):
            scope = tuple(x for x in ("a", "b", "c") if x != name)
            rows = ((0, tuple((lists[one][0], lists[other][0]) for one, other in twins)), *[(0, ((),) * 4)] * 7)
            self.assertEqual(hidden(choices, name), tidied(("choices", scope, rows)))

    def test_it_is_tidied(self):
        choices = ("choices", ("x",), ((5, (((2, 2),), ((2, 2),))), (0, ((), ())), (3, (((0, 2),), ()))))
        self.assertEqual(hidden(choices, "x"), ("choices", (), ((1, (((1, 1),),)), (1, (((0, 1),),)))))

    def test_401_pairs(self):
        def choices(one, other):
            return ("choices", ("x",), ((0, (one, other)), *[(0, ((), ()))] * 20))

        self.assertTrue(is_choices(hidden(choices(PAIRS[:200], PAIRS[200:400]), "x")))
        self.assertEqual(len(hidden(choices(PAIRS[:400], PAIRS[:400]), "x")[2][0][1][0]), 400)
        self.many(400, hidden, choices(PAIRS[:200], PAIRS[200:401]), "x")
        self.many(400, hidden, choices(PAIRS[:400], PAIRS[41:441]), "x")

    def test_it_lets_by_what_can_be_marked(self):
        chance = dice(120)
        seen = [0, 0]
        for _ in range(250):
            scope = chance.choice((("x",), ("a", "x")))
            choices = some_choices(chance, scope, chance.randint(1, 3), 4, 2)
            told = hidden(choices, "x")
            self.assertTrue(is_choices(told))
            wood = some_wood_of(chance, tuple(x for x in scope if x != "x"), chance.randint(1, 2))
            fine = choices_let(told, wood)
            seen[fine] += 1
            found = marked(choices, wood, "x")
            self.assertEqual(found is not None, fine)
            if fine:
                self.assertTrue(is_wood(found) and choices_let(choices, found))
                self.assertEqual(found[1], scope)
                self.assertTrue(alike(without(found, "x"), wood))
            else:
                for marks in markings(unfolded(wood, 2), "x"):
                    self.assertFalse(choices_let(choices, marks))
        self.assertGreater(min(seen), 50)

    def test_errors_in_order(self):
        for thing in junk_but():
            self.fails(BadChoices, hidden, thing, None)
        for thing in (*junk_but("x"), "y", "", "xx", "X", ("x",), ["x"], b"x"):
            self.fails(BadName, hidden, C, thing)
        self.fails(BadName, hidden, C1, "x")


class Marked(Case):
    def test_by_hand(self):
        told = marked(C, BARE, "x")
        self.assertTrue(choices_let(C, told))
        self.assertTrue(alike(without(told, "x"), BARE))
        self.assertEqual(marked(choices=C, wood=BARE, name="x"), told)

    def test_none(self):
        never = ("choices", ("x",), ((1, (((0, 0),), ((0, 0),))),))
        self.assertIsNone(marked(never, BARE, "x"))

    def test_names_beside(self):
        chance = dice(121)
        for _ in range(80):
            choices = some_choices(chance, ("a", "b", "c"), 2, 3, 2)
            for name in ("a", "b", "c"):
                scope = tuple(x for x in ("a", "b", "c") if x != name)
                wood = some_wood_of(chance, scope, 3)
                told = marked(choices, wood, name)
                self.assertEqual(told is not None, choices_let(hidden(choices, name), wood))
                if told is not None:
                    self.assertTrue(choices_let(choices, told) and alike(without(told, name), wood))

    def test_400_standings(self):
        for nodes in (20, 19):
            choices = circle(20, 3)
            wood = ("wood", ("y",), tuple((("y",) if at == 0 else (), (at + 1) % nodes, (at + 1) % nodes) for at in range(nodes)))
            told = marked(choices, wood, "x")
            self.assertTrue(is_wood(told) and choices_let(choices, told) and alike(without(told, "x"), wood))
            self.assertEqual(len(least(told)[2]), 20 if nodes == 20 else 380)

    def test_more_than_400(self):
        wood = ("wood", ("y",), tuple((("y",) if at == 0 else (), (at + 1) % 20, (at + 1) % 20) for at in range(20)))
        self.many(400, marked, circle(23, 23), wood, "x")
        never = ("choices", ("x", "y"), tuple((1, lists) for _, lists in circle(23, 23)[2]))
        self.assertIsNone(marked(never, wood, "x"))

    def test_20000_standings(self):
        choices = ("choices", ("x",), ((0, (((0, 0),), ())),) * 51)
        self.many(20000, marked, choices, ("wood", (), (((), 0, 0),) * 400), "x")
        fits = ("choices", ("x",), choices[2][:50])
        self.assertTrue(alike(marked(fits, ("wood", (), (((), 0, 0),) * 400), "x"), ("wood", ("x",), (((), 0, 0),))))

    def test_errors_in_order(self):
        large = ("choices", ("x",), ((0, (((0, 0),), ())),) * 51)
        wide = ("wood", ("x",), (((), 0, 0),) * 400)
        for thing in junk_but():
            self.fails(BadChoices, marked, thing, None, None)
            self.fails(BadWood, marked, C, thing, None)
            self.fails(BadWood, marked, C, thing, "x")
        for thing in (*junk_but("x"), "y", "", ("x",)):
            self.fails(BadName, marked, C, BARE, thing)
            self.fails(BadName, marked, large, wide, thing)
        self.fails(OtherScope, marked, C, ("wood", ("x",), (((), 0, 0),)), "x")
        self.fails(OtherScope, marked, large, wide, "x")
        self.fails(OtherScope, marked, C, ("wood", ("y",), (((), 0, 0),)), "x")
