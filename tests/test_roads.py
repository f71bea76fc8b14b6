"""Point [63], with NoName as in [61] and the example in [66]."""

import time

from allboughs.errors import BadRoads, BadWood, NoName
from allboughs.roads import is_roads, nodes_of_roads
from allboughs.woods import node_at
from tests.judging import wrong_parts
from tests.pointlots import nodes_by_roads, parts, some_saying, some_telling
from tests.support import Alike, Case, dice, doubled, junk_but, some_wood_of

MX, MY = ("here", ("mark", "x")), ("here", ("mark", "y"))
# x at the root, at its right child, and at all places left of this.
W = ("wood", ("x",), ((("x",), 1, 2), ((), 1, 1), (("x",), 2, 1)))
ALL = ("every", ("once", MX))


def nots(many, inner):
    """So many not, one within the other."""
    for _ in range(many):
        inner = ("not", inner)
    return inner


def joined(word, rows):
    """Formulas joined one behind the other."""
    told = rows[-1]
    for row in rows[-2::-1]:
        told = (word, row, told)
    return told


class ByHand(Case):
    def test_by_hand(self):
        self.assertIs(is_roads(thing=ALL), True)
        child = ("some", ("both", ("goes", 0), ("next", MX)))
        self.assertEqual(nodes_of_roads(roads=child, wood=W), (2,))
        for roads, told in (
            (("mark", "x"), (0, 2)), (("bare", "x"), (1,)), (("not", ("mark", "x")), (1,)), (("both", ("mark", "x"), ("bare", "x")), ()),
            (("either", ("mark", "x"), ("bare", "x")), (0, 1, 2)), (("some", MX), (0, 2)), (("every", MX), (0, 2)), (("some", ("goes", 1)), (0, 1, 2)),
            (("every", ("goes", 1)), ()), (("some", ("next", MX)), (0, 2)), (("every", ("next", MX)), ()), (("some", ("ever", MX)), (0, 2)),
            (("every", ("ever", MX)), ()), (("some", ("once", ("not", MX))), (0, 1, 2)), (("every", ("once", ("not", MX))), (1,)),
            (ALL, (0, 2)), (("some", ("ever", ("goes", 1))), (0, 1, 2)), (("some", ("both", ("ever", ("goes", 0)), ("ever", MX))), (2,)),
            (("some", ("both", ("ever", ("goes", 1)), ("next", ("next", MX)))), ()),
        ):
            self.assertEqual(nodes_of_roads(roads, W), told, roads)
            self.assertEqual(nodes_by_roads(roads, W, 5), told, roads)

    def test_until(self):
        """Its second part has to come; its first one has to hold on all places ahead of that one alone."""
        for telling, told in (
            (("until", MX, ("not", MX)), (0, 1, 2)), (("until", ("not", MX), MX), (0, 2)), (("until", MX, ("here", ("both", ("mark", "x"), ("bare", "x")))), ()),
            (("until", ("goes", 0), ("both", MX, ("goes", 1))), (0, 2)), (("not", ("until", MX, ("not", MX))), (0, 2)),
        ):
            self.assertEqual(nodes_of_roads(("some", telling), W), told, telling)
        self.assertEqual(nodes_of_roads(("every", ("until", MX, ("not", MX))), W), (1,))

    def test_once_and_ever_within_one_another(self):
        wood = ("wood", ("x", "y"), ((("x",), 1, 0), (("y",), 0, 2), ((), 2, 2)))
        again = ("ever", ("once", MX))
        last = ("once", ("ever", ("not", MX)))
        for roads, told in (
            (("some", again), (0, 1)), (("every", again), ()), (("some", last), (0, 1, 2)), (("every", last), (2,)),
            (("some", ("ever", ("both", ("once", MX), ("once", MY)))), (0, 1)), (("some", ("both", again, ("once", MY))), (0, 1)),
            (("some", ("both", again, ("ever", ("not", MY)))), (0,)), (("every", ("either", last, ("goes", 0))), (1, 2)),
            (("some", ("ever", ("once", ("both", MX, ("next", MY))))), (0, 1)), (("some", ("ever", ("either", MX, ("next", MX)))), (0, 1)),
            (("every", ("either", ("not", again), ("once", MX))), (0, 1, 2)), (("every", ("either", ("not", again), MX)), (0, 2)),
        ):
            self.assertEqual(nodes_of_roads(roads, wood), told, roads)
            self.assertEqual(nodes_by_roads(roads, wood, 5), told, roads)

    def test_what_is_put_off_for_ever(self):
        """Each of both is put off as the other one is told again; none is ever paid."""
        wood = ("wood", ("x", "y"), (((), 0, 1), (("x",), 0, 0)))
        self.assertEqual(nodes_of_roads(("some", ("ever", ("both", ("once", MX), ("once", MY)))), wood), ())
        self.assertEqual(nodes_of_roads(("some", ("ever", ("until", ("not", MY), MX))), wood), (0, 1))
        self.assertEqual(nodes_of_roads(("some", ("both", ("ever", ("goes", 0)), ("once", MX))), wood), (1,))

    def test_some_and_every_within_one_another(self):
        inner = ("some", ("both", ("goes", 0), ("next", MX)))
        self.assertEqual(nodes_of_roads(("some", ("next", ("here", inner))), W), (0, 2))
        self.assertEqual(nodes_of_roads(("every", ("once", ("here", inner))), W), (2,))
        self.assertEqual(nodes_of_roads(("every", ("ever", ("here", ("either", inner, ("some", ("next", ("here", ("bare", "x")))))))), W), (0, 1, 2))


class Hearts(Case):
    def test_against_roads_that_go_round(self):
        chance = dice(580)
        mixed = 0
        for _ in range(900):
            roads = some_saying(chance, chance.randint(2, 9))
            if is_roads(roads):
                wood = some_wood_of(chance, ("x", "y"), chance.randint(1, 3))
                told = nodes_of_roads(roads, wood)
                mixed += 0 < len(told) < len(wood[2])
                self.assertEqual(told, nodes_by_roads(roads, wood, 6), (roads, wood))
        self.assertGreater(mixed, 120)

    def test_contraries(self):
        chance = dice(581)
        for _ in range(300):
            telling = some_telling(chance, 8)
            if is_roads(("some", telling)):
                wood = some_wood_of(chance, ("x", "y"), 5)
                every, some = nodes_of_roads(("every", telling), wood), nodes_of_roads(("some", ("not", telling)), wood)
                self.assertEqual(sorted(every + some), [0, 1, 2, 3, 4])
                for way in (0, 1):
                    one = nodes_of_roads(("some", ("both", ("goes", way), ("next", telling))), wood) if is_roads(("some", ("next", telling))) else None
                    if one is not None:
                        below = nodes_of_roads(("some", telling), wood)
                        self.assertEqual(one, tuple(node for node in range(5) if wood[2][node][1 + way] in below))

    def test_places(self):
        chance = dice(582)
        for _ in range(60):
            roads = some_saying(chance, 7)
            if is_roads(roads):
                wood = some_wood_of(chance, ("a", "x", "y"), 4)
                for way in (0, 1):
                    behind = ("some", ("both", ("goes", way), ("next", ("here", roads))))
                    if is_roads(behind):
                        self.assertIs(0 in nodes_of_roads(behind, wood), node_at(wood, (way,)) in nodes_of_roads(roads, wood))


class Limits(Case):
    def test_nodes(self):
        for many, fine in ((59, True), (60, False)):
            self.assertEqual(len(parts(nots(many, ("mark", "x")))), many + 1)
            self.assertIs(is_roads(nots(many, ("mark", "x"))), fine)
        for many, fine in ((57, True), (58, False)):
            self.assertIs(is_roads(("some", nots(many, MX))), fine)
        self.assertFalse(is_roads(nots(50000, ("mark", "x"))))
        self.assertFalse(is_roads(doubled("both", ("mark", "x"), 60)))

    def test_some_and_every(self):
        four = joined("both", [("some", MX), ("every", ("once", MX)), ("some", ("here", ("every", MX)))])
        self.assertTrue(is_roads(four))
        self.assertFalse(is_roads(("either", four, ("some", MX))))
        self.assertFalse(is_roads(("some", ("here", four))))

    def test_what_lasts_in_one_telling(self):
        three = joined("either", [("next", MX), ("until", ("goes", 0), MX), ("not", ("once", MX))])
        self.assertTrue(is_roads(("some", three)))
        self.assertFalse(is_roads(("some", ("ever", three))))
        self.assertFalse(is_roads(("some", ("both", three, ("ever", MX)))))
        # What stands in a here does not count.
        self.assertTrue(is_roads(("some", ("both", three, ("here", ("every", three))))))
        self.assertFalse(is_roads(("some", ("both", three, ("here", ("every", ("ever", three)))))))
        self.assertTrue(is_roads(("both", ("some", three), ("every", three))))
        self.assertFalse(is_roads(("some", ("next", ("next", ("next", ("next", MX)))))))

    def test_names(self):
        three = joined("both", [("mark", "a"), ("bare", "b"), ("some", ("here", ("mark", "c")))])
        self.assertTrue(is_roads(three))
        self.assertFalse(is_roads(("either", three, ("mark", "d"))))
        self.assertFalse(is_roads(("some", ("here", ("either", three, ("bare", "d"))))))

    def test_soon(self):
        chance = dice(583)
        ring = ("wood", ("x", "y"), tuple(
            (tuple(name for name in "xy" if chance.random() < 0.5), (at + 1) % 400, at * 3 % 400) for at in range(400)))
        telling = ("ever", ("once", ("both", MX, ("next", ("either", MY, ("goes", 0))))))
        roads = joined("both", [("some", telling), ("every", ("not", telling)), ("some", ("not", telling)), ("every", telling)])
        start = time.time()
        self.assertEqual(nodes_of_roads(roads, ring), ())
        self.assertEqual(len(nodes_of_roads(roads[1], ring)) + len(nodes_of_roads(roads[2][1], ring)), 400)
        self.assertLess(time.time() - start, 8)
        sayings = [some_saying(chance, 12) for _ in range(200)]
        start = time.time()
        for saying in sayings:
            if is_roads(saying):
                nodes_of_roads(saying, ("wood", ("x", "y"), ((("x",), 1, 0), (("y",), 0, 2), ((), 2, 2))))
        self.assertLess(time.time() - start, 2)


class Errors(Case):
    def test_is_roads(self):
        fine = ("both", ("mark", "x"), ("some", ("both", ("goes", 0), ("until", MX, ("not", MY)))))
        self.assertTrue(is_roads(fine))
        self.none_of(is_roads, junk_but())
        self.none_of(is_roads, [wrong for wrong in wrong_parts(fine) if "xs" not in repr(wrong) and "ys" not in repr(wrong)])
        for wrong in (
            MX, ("goes", 0), ("here", ("mark", "x")), ("some", ("mark", "x")), ("some", ("some", MX)), ("every", ("goes", True)), ("every", ("goes", 2)),
            ("every", ("goes",)), ("some", MX, MX), ("some",), ("not", MX), ("next", MX), ("some", ("not", ("mark", "x"))), ("some", ("here", MX)),
            ("some", ("here", ("goes", 0))), ("some", ("until", MX)), ("some", ("once", MX, MX)), ("mark", "some"), ("mark", Alike()), (Alike(), MX),
            ("both", ("mark", "x"), MX), ["mark", "x"], ("some", ["here", ("mark", "x")]), ("some", ("goes", "0")), ("yes",), ("some", ("yes",)),
        ):
            self.assertIs(is_roads(wrong), False, wrong)

    def test_errors(self):
        for thing in junk_but() + [MX, ("some", ("mark", "x"))]:
            self.fails(BadRoads, nodes_of_roads, thing, None)
        for thing in junk_but():
            self.fails(BadWood, nodes_of_roads, ALL, thing)
        roads = ("both", ("mark", "z"), ("some", ("here", ("bare", "b"))))
        self.assertEqual(self.fails(NoName, nodes_of_roads, roads, W).name, "b")
        self.assertEqual(self.fails(NoName, nodes_of_roads, roads, ("wood", ("b",), (((), 0, 0),))).name, "z")
        self.assertEqual(nodes_of_roads(roads, ("wood", ("b", "q", "z"), ((("z",), 0, 0),))), (0,))
