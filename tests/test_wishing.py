"""Point [66] but for its examples of single functions, with [41], [45], [46], [62]."""

import time

from allboughs.choices import is_choices
from allboughs.chosen import chosen
from allboughs.emptying import is_bar
from allboughs.errors import BadPoints, BadScope, TooMany
from allboughs.guides import guide
from allboughs.plainroads import as_points, pointed
from allboughs.playing import lets_by
from allboughs.pointing import machine_of_points, points_of
from allboughs.points import denied, is_points, marks_of, nodes_of, unrolled
from allboughs.pruning import pruned
from allboughs.shorts import meant
from allboughs.wishing import bar_for, choices_for, points_parted, wood_for
from allboughs.woods import is_wood
from tests.judging import good_bar
from tests.pointlots import nodes_by_rounds, parts, some_points
from tests.support import Case, dice, junk_but, some_wood_of
from tests.test_compiling import told_or_most
from tests.test_points import F, nexts, point, wide

NOWHERE = ("least", "pa", ("both", ("yes",), ("next", 0, ("point", "pa"))))


def of_three(chance, marks=("x", "y"), bound=(), free=(), nexts_left=None, nodes=None, binders=("most",)):
    """A formula without least of at most 40 nodes with at most 3 next, each point the part of a next."""
    nexts_left = [3] if nexts_left is None else nexts_left
    nodes = [chance.randint(1, 40)] if nodes is None else nodes
    nodes[0] -= 1
    words = ["mark", "bare", "mark", "bare", "yes", "no"]
    if nodes[0] > 2:
        words += ["both", "either"] * 4 + list(binders) * 2
    if nodes[0] > 1 and nexts_left[0]:
        words += ["next"] * 4
    word = chance.choice(words)
    if word in ("yes", "no"):
        return (word,)
    if word in ("mark", "bare"):
        return (word, chance.choice(marks))
    if word == "next":
        nexts_left[0] -= 1
        if bound and chance.random() < 0.6:
            nodes[0] -= 1
            return (word, chance.randrange(2), ("point", chance.choice(bound)))
        return (word, chance.randrange(2), of_three(chance, marks, bound, free, nexts_left, nodes, binders))
    if word in ("both", "either"):
        first = of_three(chance, marks, bound, free, nexts_left, nodes, binders)
        return (word, first, of_three(chance, marks, bound, free, nexts_left, nodes, binders))
    name = chance.choice("uvw")
    inner = tuple(one for one in bound if one != name) + (name,)
    return (word, name, of_three(chance, marks, inner, free, nexts_left, nodes, binders))


class ByHand(Case):
    def test_by_hand(self):
        self.assertIsNone(wood_for(points=NOWHERE))
        told = bar_for(points=NOWHERE)
        self.assertTrue(is_bar(choices_for(points=NOWHERE), told))
        wood = wood_for(F)
        self.assertIn(0, nodes_of(F, wood))
        self.assertEqual(wood[1], ("x",))
        self.assertIsNone(bar_for(F))

    def test_everywhere_and_nowhere(self):
        for points in (("yes",), ("either", ("mark", "x"), ("bare", "x")), ("most", "z", point())):
            self.assertIsNone(bar_for(points))
            self.assertIn(0, nodes_of(points, wood_for(points)))
        for points in (("no",), ("both", ("mark", "x"), ("bare", "x")), ("least", "z", point()), ("next", 1, ("both", F, denied(F)))):
            self.assertIsNone(wood_for(points))
            self.assertTrue(is_bar(choices_for(points), bar_for(points)))

    def test_points_parted(self):
        self.assertIsNone(points_parted(one=F, other=F))
        self.assertIsNone(points_parted(F, unrolled(F)))
        wood = points_parted(F, denied(F))
        self.assertEqual(wood[1], ("x",))
        wood = points_parted(("mark", "x"), ("mark", "y"))
        self.assertEqual(wood[1], ("x", "y"))
        self.assertNotEqual(0 in nodes_of(("mark", "x"), wood), 0 in nodes_of(("mark", "y"), wood))
        self.assertIsNone(points_parted(("both", ("mark", "a"), ("bare", "a")), ("both", ("mark", "b"), ("bare", "b"))))
        self.assertEqual(points_parted(("both", ("mark", "a"), ("mark", "b")), ("mark", "c"))[1], ("a", "b", "c"))


class Hearts(Case):
    def test_a_wood_or_a_bar(self):
        chance = dice(650)
        seen = [0, 0]
        for _ in range(300):
            points = some_points(chance, chance.randint(1, 9))
            choices = told_or_most(choices_for, points)
            if isinstance(choices, int):
                self.many(choices, wood_for, points)
                self.many(choices, bar_for, points)
                continue
            self.assertTrue(is_choices(choices))
            self.assertEqual(choices, pruned(chosen(machine_of_points(points))))
            wood, told = wood_for(points), bar_for(points)
            seen[wood is None] += 1
            self.assertIs(wood is None, told is not None)
            if wood is not None:
                self.assertTrue(is_wood(wood))
                self.assertEqual(wood[1], marks_of(points))
                self.assertLessEqual(len(wood[2]), len(choices[2]))
                self.assertIn(0, nodes_by_rounds(points, wood))
                self.assertIsNotNone(guide(choices, wood))
            else:
                self.assertTrue(good_bar(choices, told))
                self.assertTrue(is_bar(choices, told))
                for _ in range(3):
                    other = some_wood_of(chance, marks_of(points), 3)
                    self.assertEqual(nodes_of(points, other), ())
        self.assertGreater(min(seen), 40)

    def test_choices(self):
        chance = dice(651)
        seen = [0, 0]
        for _ in range(120):
            points = some_points(chance, chance.randint(1, 8), ("x",))
            choices = told_or_most(choices_for, points)
            if not isinstance(choices, int):
                wood = some_wood_of(chance, marks_of(points), chance.randint(1, 3))
                fine = 0 in nodes_of(points, wood)
                seen[fine] += 1
                self.assertIs(guide(choices, wood) is not None, fine)
        self.assertGreater(min(seen), 25)

    def test_points_parted(self):
        chance = dice(652)
        seen = [0, 0]
        for _ in range(250):
            one = some_points(chance, chance.randint(1, 7))
            other = chance.choice((some_points(chance, chance.randint(1, 7)), denied(denied(one)), ("both", one, one), denied(one), ("either", ("no",), one)))
            try:
                told = points_parted(one, other)
            except TooMany:
                continue
            seen[told is None] += 1
            scope = tuple(sorted({*marks_of(one), *marks_of(other)}))
            if told is not None:
                self.assertEqual(told[1], scope)
                self.assertNotEqual(0 in nodes_by_rounds(one, told), 0 in nodes_by_rounds(other, told))
            else:
                for _ in range(3):
                    wood = some_wood_of(chance, scope, 3)
                    self.assertEqual(nodes_of(one, wood), nodes_of(other, wood))
        self.assertGreater(min(seen), 60)

    def test_twins(self):
        """What says the same in another way is parted nowhere; a formula and denied are parted at once."""
        chance = dice(653)
        met = 0
        for _ in range(80):
            points = some_points(chance, chance.randint(2, 6), ("x",))
            twins = [points, denied(denied(points))]
            if points[0] in ("least", "most"):
                twins.append(unrolled(points))
            machine = machine_of_points(points)
            if len(machine[2]) <= 2:
                twins.append(points_of(machine))
            for twin in twins:
                told = told_or_most(points_parted, points, twin)
                if not isinstance(told, int):
                    met += 1
                    self.assertIsNone(told)
            told = told_or_most(points_parted, points, denied(points))
            if not isinstance(told, int):
                self.assertNotEqual(0 in nodes_of(points, told), 0 in nodes_of(denied(points), told))
        self.assertGreater(met, 100)

    def test_shorts_and_roads(self):
        for word in ("bare", "one", "closed", "thread", "road", "finite", "every", "often", "again"):
            wood = wood_for(pointed((word, "x")))
            self.assertTrue(meant((word, "x"), wood))
        some = as_points(("some", ("once", ("here", ("mark", "x")))))
        every = as_points(("every", ("once", ("here", ("mark", "x")))))
        self.assertIsNone(points_parted(denied(some), as_points(("every", ("ever", ("here", ("bare", "x")))))))
        wood = points_parted(some, every)
        self.assertTrue(lets_by(machine_of_points(some), wood))
        self.assertFalse(lets_by(machine_of_points(every), wood))
        self.assertIsNone(wood_for(("both", every, pointed(("bare", "x")))))


class NoTooMany(Case):
    def test_without_least(self):
        chance = dice(654)
        met = 0
        for _ in range(600):
            points = of_three(chance)
            if len(parts(points)) > 40:
                continue
            met += 1
            self.assertTrue(is_points(points))
            self.assertTrue(is_choices(choices_for(points)))
            self.assertIs(wood_for(points) is None, bar_for(points) is not None)
        self.assertGreater(met, 400)

    def test_parted_without_least_and_most(self):
        chance = dice(655)
        for _ in range(250):
            one, other = [of_three(chance, binders=()) for _ in range(2)]
            if max(len(parts(one)), len(parts(other))) > 40:
                continue
            told = points_parted(one, other)
            if told is not None:
                self.assertNotEqual(0 in nodes_of(one, told), 0 in nodes_of(other, told))

    def test_three_next_that_lead_anywhere(self):
        """All three next, with points to one another's binders, joined in all ways."""
        chance = dice(656)
        for _ in range(200):
            rows = [("next", chance.randrange(2), ("point", chance.choice("uv"))) for _ in range(3)] + [("mark", "x"), ("bare", "y")]
            chance.shuffle(rows)
            told = rows[0]
            for row in rows[1:]:
                told = (chance.choice(("both", "either")), told, row)
            points = ("most", "u", ("most", "v", told))
            self.assertTrue(is_choices(choices_for(points)))


class Limits(Case):
    def test_too_many(self):
        chain = nexts(30, ("mark", "x"))
        for function in (choices_for, wood_for, bar_for):
            self.many(24, function, chain)
            self.assertIn(told_or_most(function, ("both", chain, wide(3001))), (24, 400))
        self.many(24, points_parted, chain, ("yes",))
        deep = ("next", 1, ("point", "a"))
        for name in "bcdefghijk":
            deep = ("either", deep, ("next", 0, ("point", name)))
        for at, name in enumerate("abcdefghijk"):
            deep = (("least", "most")[at % 2], name, deep)
        self.many(9, choices_for, deep)

    def test_soon(self):
        chance = dice(657)
        lots = [of_three(chance) for _ in range(100)]
        start = time.time()
        for points in lots:
            choices_for(points)
        self.assertLess(time.time() - start, 4)


class Errors(Case):
    def test_errors(self):
        for thing in junk_but(("yes",)) + [("least", "z", ("point", "z")), wide(4001)]:
            for function in (choices_for, wood_for, bar_for):
                self.fails(BadPoints, function, thing)
            self.fails(BadPoints, points_parted, thing, None)
            self.fails(BadPoints, points_parted, F, thing)
        many = nexts(50, ("both", ("mark", "a"), ("mark", "b")))
        self.fails(BadScope, points_parted, many, nexts(50, ("both", ("mark", "c"), ("mark", "d"))))
        self.many(24, points_parted, many, nexts(50, ("both", ("mark", "c"), ("mark", "b"))))
