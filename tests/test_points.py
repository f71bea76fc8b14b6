"""Points [60] and [61], with what the example in [66] says of nodes_of."""

import time

from allboughs.errors import BadPoints, BadWood, NoName
from allboughs.points import denied, is_points, marks_of, nodes_of, unrolled
from allboughs.woods import node_at
from tests.judging import wrong_parts
from tests.pointlots import depth, nodes_by_rounds, parts, some_points
from tests.support import Alike, Case, dice, doubled, junk_but, some_wood_of

# On the road of left ways x comes again and again.
F = ("most", "z", ("least", "y", ("either", ("both", ("mark", "x"), ("next", 0, ("point", "z"))), ("next", 0, ("point", "y")))))
W = ("wood", ("x",), ((("x",), 1, 0), ((), 0, 1), ((), 2, 2)))
EXCHANGED = {"yes": "no", "no": "yes", "mark": "bare", "bare": "mark", "both": "either", "either": "both", "least": "most", "most": "least"}


def nexts(many, inner=("yes",)):
    """So many next, one within the other."""
    for _ in range(many):
        inner = ("next", 1, inner)
    return inner


def wide(many):
    """A formula of so many nodes, few of them deep: an odd number."""
    row = [("mark", "x")] * ((many + 1) // 2)
    while len(row) > 1:
        row = [("both", *row[at:at + 2]) if at + 1 < len(row) else row[at] for at in range(0, len(row), 2)]
    return row[0]


def point(name="z"):
    """A point behind a next."""
    return ("next", 0, ("point", name))


def exchanged(points):
    """What denied is, by the words of [61]."""
    return tuple(
        EXCHANGED.get(part, part) if at == 0 else exchanged(part) if isinstance(part, tuple) else part for at, part in enumerate(points))


class ByHand(Case):
    def test_by_hand(self):
        self.assertIs(is_points(thing=F), True)
        self.assertEqual(marks_of(points=F), ("x",))
        self.assertEqual(nodes_of(points=F, wood=W), (0, 1))
        self.assertEqual(nodes_of(denied(points=F), W), (2,))
        inner = ("next", 0, F)
        self.assertEqual(unrolled(points=F), ("least", "y", ("either", ("both", ("mark", "x"), inner), ("next", 0, ("point", "y")))))

    def test_small_ones(self):
        for points, told in (
            (("yes",), (0, 1, 2)), (("no",), ()), (("mark", "x"), (0,)), (("bare", "x"), (1, 2)), (("next", 0, ("mark", "x")), (1,)),
            (("next", 1, ("mark", "x")), (0,)), (("both", ("bare", "x"), ("next", 0, ("mark", "x"))), (1,)),
            (("either", ("mark", "x"), ("next", 0, ("mark", "x"))), (0, 1)), (("least", "z", point()), ()), (("most", "z", point()), (0, 1, 2)),
            (("least", "z", ("mark", "x")), (0,)), (("least", "z", ("either", ("mark", "x"), point())), (0, 1)),
            (("most", "z", ("both", ("bare", "x"), point())), (2,)),
        ):
            self.assertEqual(nodes_of(points, W), told, points)
            self.assertEqual(nodes_by_rounds(points, W), told)

    def test_nodes_that_are_not_come_to(self):
        wood = ("wood", ("x",), (((), 0, 0), (("x",), 0, 0), ((), 1, 1)))
        self.assertEqual(nodes_of(("next", 0, ("mark", "x")), wood), (2,))
        self.assertEqual(nodes_of(("bare", "x"), wood), (0, 2))

    def test_a_name_bound_anew(self):
        inner = ("least", "z", ("either", ("mark", "x"), ("next", 1, ("point", "z"))))
        points = ("most", "z", ("both", inner, point()))
        self.assertTrue(is_points(points))
        self.assertEqual(unrolled(points), ("both", inner, ("next", 0, points)))
        self.assertEqual(unrolled(inner), ("either", ("mark", "x"), ("next", 1, inner)))
        # A point of the outer one within what binds another name, and not within what binds its own.
        both = ("most", "z", ("least", "y", ("both", point("z"), ("both", point("y"), ("least", "z", point("z"))))))
        told = ("least", "y", ("both", ("next", 0, both), ("both", point("y"), ("least", "z", point("z")))))
        self.assertEqual(unrolled(both), told)

    def test_names_of_points_and_of_marks_have_nothing_to_do_with_one_another(self):
        points = ("least", "x", ("either", ("mark", "x"), ("next", 0, ("point", "x"))))
        self.assertEqual(marks_of(points), ("x",))
        self.assertEqual(nodes_of(points, W), (0, 1))
        self.assertEqual(marks_of(("least", "y", point("y"))), ())
        self.assertEqual(marks_of(("both", ("bare", "b"), ("mark", "a"))), ("a", "b"))
        self.assertTrue(is_points(("least", "a", ("both", wide(3), ("either", ("mark", "y"), ("both", ("bare", "z"), ("next", 0, ("point", "a"))))))))

    def test_no_point_without_a_next(self):
        for fine, points in (
            (False, ("point", "z")), (False, ("next", 0, ("point", "z"))), (False, ("least", "z", ("point", "z"))),
            (False, ("least", "z", ("both", ("yes",), ("point", "z")))), (False, ("next", 0, ("least", "z", ("point", "z")))),
            (True, ("least", "z", ("next", 0, ("both", ("yes",), ("point", "z"))))), (False, ("least", "z", ("next", 0, ("least", "z", ("point", "z"))))),
            (True, ("least", "z", ("next", 0, ("least", "y", ("point", "z"))))), (False, ("least", "z", ("next", 0, ("least", "y", ("point", "y"))))),
            (False, ("least", "z", ("least", "y", ("both", point("y"), ("point", "z"))))), (False, ("both", ("least", "z", point()), point())),
            (True, ("least", "z", ("most", "y", ("both", point("y"), point("z"))))), (False, ("least", "y", point("z"))),
        ):
            self.assertIs(is_points(points), fine, points)


class Hearts(Case):
    def test_rounds_of_lots_of_nodes(self):
        chance = dice(560)
        mixed = 0
        for _ in range(1500):
            points = some_points(chance, chance.randint(1, 14))
            self.assertTrue(is_points(points))
            wood = some_wood_of(chance, ("x", "y"), chance.randint(1, 5))
            told = nodes_by_rounds(points, wood)
            mixed += 0 < len(told) < len(wood[2])
            self.assertEqual(nodes_of(points, wood), told, (points, wood))
        self.assertGreater(mixed, 200)

    def test_denied(self):
        chance = dice(561)
        for _ in range(400):
            points = some_points(chance, chance.randint(1, 14))
            wood = some_wood_of(chance, ("x", "y"), chance.randint(1, 5))
            told = denied(points)
            self.assertEqual(told, exchanged(points))
            self.assertEqual(denied(told), points)
            self.assertEqual(sorted(nodes_of(points, wood) + nodes_of(told, wood)), list(range(len(wood[2]))))

    def test_unrolled(self):
        chance = dice(562)
        met = 0
        for _ in range(600):
            points = some_points(chance, chance.randint(2, 12))
            if points[0] in ("least", "most"):
                met += 1
                told = unrolled(points)
                self.assertTrue(is_points(told))
                wood = some_wood_of(chance, ("x", "y"), chance.randint(1, 5))
                self.assertEqual(nodes_of(told, wood), nodes_of(points, wood))
        self.assertGreater(met, 100)

    def test_places(self):
        """It holds at a place exactly if the node of the place is told, and further names of the wood mean nothing."""
        chance = dice(563)
        for _ in range(100):
            points = some_points(chance, 8)
            wood = some_wood_of(chance, ("a", "x", "y"), 4)
            for way in (0, 1):
                self.assertIs(0 in nodes_of(("next", way, points), wood), node_at(wood, (way,)) in nodes_of(points, wood))


class Limits(Case):
    def test_nodes(self):
        for many, fine in ((3999, True), (4001, False)):
            self.assertEqual(len(parts(wide(many))), many)
            self.assertIs(is_points(wide(many)), fine)
        self.assertTrue(is_points(("next", 0, wide(3999))))
        self.assertFalse(is_points(("next", 0, ("next", 0, wide(3999)))))
        self.assertFalse(is_points(doubled("both", ("yes",), 40)))

    def test_depth(self):
        self.assertEqual(depth(nexts(59)), 60)
        self.assertTrue(is_points(nexts(59)))
        self.assertFalse(is_points(nexts(60)))
        self.assertFalse(is_points(nexts(50000)))
        self.assertEqual(nodes_of(nexts(59), W), (0, 1, 2))
        self.assertEqual(denied(nexts(59)), nexts(59, ("no",)))

    def test_marks(self):
        three = ("both", ("mark", "a"), ("both", ("bare", "b"), ("mark", "c")))
        self.assertTrue(is_points(three))
        self.assertFalse(is_points(("both", three, ("bare", "d"))))
        self.assertTrue(is_points(("both", three, ("bare", "c"))))

    def test_unrolled_that_is_too_large(self):
        """A body of so many nodes with two points comes to three times as many, and some more."""
        for many, fine in ((1325, True), (1327, True), (1329, False)):
            points = ("least", "z", ("both", ("both", point(), point()), wide(many)))
            whole = many + 7
            nodes = whole - 1 - 2 + 2 * whole
            self.assertIs(nodes <= 4000, fine)
            if fine:
                self.assertEqual(len(parts(unrolled(points))), nodes)
            else:
                self.many(4000, unrolled, points)
        # What is bound anew is not what goes into its points.
        inner = ("least", "z", ("both", ("both", point(), point()), wide(801)))
        points = ("most", "z", ("both", point(), ("both", inner, wide(801))))
        whole = len(parts(points))
        self.assertEqual(len(parts(unrolled(points))), 2 * whole - 2)
        self.assertGreater(2 * whole - 2 + 2 * (whole - 1), 4000)
        for many, fine in ((28, True), (29, False)):
            points = ("most", "z", nexts(many, ("both", ("yes",), ("point", "z"))))
            self.assertIs(2 * many + 3 <= 60, fine)
            if fine:
                self.assertEqual(depth(unrolled(points)), many + 1 + depth(points))
            else:
                self.many(60, unrolled, points)
        # Of both the number of nodes comes first.
        self.many(4000, unrolled, ("most", "z", ("both", wide(2001), nexts(40, ("both", point(), ("both", point(), ("next", 0, ("point", "z"))))))))

    def test_soon(self):
        chance = dice(564)
        ring = ("wood", ("x",), tuple((("x",) if at % 7 == 0 else (), (at + 1) % 400, at * 3 % 400) for at in range(400)))
        deep = ("mark", "x")
        names = [first + second for first in "abcde" for second in "pqrst"]
        for name in names[:20]:
            deep = ("either", deep, ("next", 1, ("point", name)))
        for at, name in enumerate(names[:20]):
            deep = (("least", "most")[at % 2], name, deep)
        start = time.time()
        self.assertEqual(len(nodes_of(deep, ring)), 400)
        self.assertEqual(nodes_of(("least", "z", ("either", ("mark", "x"), ("next", 0, ("point", "z")))), ring), tuple(range(400)))
        body = [("next", chance.randrange(2), ("point", chance.choice("uv"))) if chance.random() < 0.8 else ("bare", "x") for _ in range(1024)]
        while len(body) > 1:
            body = [(chance.choice(("both", "either")), *body[at:at + 2]) for at in range(0, len(body), 2)]
        for words in (("least", "least"), ("most", "least")):
            points = (words[0], "u", (words[1], "v", body[0]))
            self.assertEqual(len(nodes_of(points, ring)) + len(nodes_of(denied(points), ring)), 400)
        self.assertLess(time.time() - start, 15)
        start = time.time()
        for _ in range(200):
            nodes_of(some_points(chance, 14, ("x",)), W)
        self.assertLess(time.time() - start, 2)


class Errors(Case):
    def test_is_points(self):
        self.none_of(is_points, junk_but(("yes",)))
        self.none_of(is_points, [wrong for wrong in wrong_parts(F) if not self.is_name_changed(wrong)])
        for wrong in (
            ("mark",), ("mark", "all"), ("mark", "X"), ("mark", 0), ("bare", "x", "y"), ("next", True, ("yes",)), ("next", 2, ("yes",)), ("next", 0),
            ("next", ("yes",), 0), ("both", ("yes",)), ("both", ("yes",), ("no",), ("no",)), ("least", "some", ("yes",)), ("least", ("yes",)),
            ("least", "z"), ("point",), ("most", "z", ["next", 0, ("point", "z")]), ("not", ("yes",)), ["yes"], ("yes", "yes"), (("yes",),),
            ("mark", Alike()), (Alike(),), ("next", Alike(), ("yes",)), ("both", ("yes",), None), ("least", 1, ("yes",)),
        ):
            self.assertIs(is_points(wrong), False, wrong)

    def is_name_changed(self, wrong):
        """Whether just the name of a mark is another one: that is as good."""
        return wrong == ("most", "z", ("least", "y", ("either", ("both", ("mark", "xs"), point()), point("y"))))

    def test_errors(self):
        for function in (marks_of, denied, unrolled):
            for thing in junk_but(("yes",)) + [("least", "z", ("point", "z")), wide(4001)]:
                self.fails(BadPoints, function, thing)
        for thing in junk_but(("yes",)):
            self.fails(BadPoints, nodes_of, thing, None)
        for thing in junk_but():
            self.fails(BadWood, nodes_of, F, thing)
        for points in (("yes",), ("mark", "x"), ("both", F, F), ("next", 0, F), wide(3999)):
            self.fails(BadPoints, unrolled, points)

    def test_no_name(self):
        points = ("both", ("mark", "z"), ("both", ("bare", "b"), F))
        self.assertEqual(self.fails(NoName, nodes_of, points, W).name, "b")
        self.assertEqual(self.fails(NoName, nodes_of, points, ("wood", ("b", "x"), (((), 0, 0),))).name, "z")
        self.assertEqual(nodes_of(points, ("wood", ("b", "x", "z"), ((("x", "z"), 0, 0),))), (0,))
