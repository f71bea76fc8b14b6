"""Point [62], with [20], [21], [26] and the example in [66]."""

import time

from allboughs.building import contrary
from allboughs.conditions import plain
from allboughs.errors import BadMachine, BadPoints, TooMany
from allboughs.machines import is_machine, pressed
from allboughs.playing import lets_by
from allboughs.pointing import machine_of_points, points_of
from allboughs.points import denied, is_points, marks_of, nodes_of, unrolled
from allboughs.unfolding import Unfolding
from tests.judging import wrong_parts
from tests.meanings import all_woods
from tests.pointlots import depth, nodes_by_rounds, parts, some_points
from tests.support import Case, bits, dice, junk_but, some_machine, some_wood_of
from tests.test_compiling import told_or_most
from tests.test_points import F, W, nexts, point, wide


def go(way, state):
    """A go."""
    return ("go", way, state)


def worth(points):
    """The worth of a least or most, by the words of [62]."""
    inner = max([worth(part) for part in parts(points)[1:] if part[0] in ("least", "most")], default=0)
    wanted = 1 if points[0] == "least" else 0
    return inner if inner % 2 == wanted else inner + 1


def at(points, path):
    """The formula that stands there."""
    for turn in path:
        points = points[turn]
    return points


def binder(points, path):
    """The path of what binds the point that stands there."""
    name = at(points, path)[1]
    for many in range(len(path) - 1, -1, -1):
        around = at(points, path[:many])
        if around[0] in ("least", "most") and around[1] == name:
            return path[:many]
    return None


def opened(points, path, passed, letter, meet):
    """The condition that comes of opening the formula that stands there, by the words of [62]."""
    part = at(points, path)
    word = part[0]
    if word in ("yes", "no"):
        return part
    if word in ("mark", "bare"):
        return ("yes",) if (part[1] in letter) == (word == "mark") else ("no",)
    if word in ("both", "either"):
        return (word, *[opened(points, path + (turn,), passed, letter, meet) for turn in (1, 2)])
    if word in ("least", "most"):
        return opened(points, path + (2,), passed, letter, meet)
    if word == "point":
        around = binder(points, path)
        return opened(points, around + (2,), max(passed, worth(at(points, around))), letter, meet)
    goal = path + (2,)
    if at(points, goal)[0] == "point":
        around = binder(points, goal)
        return ("go", part[1], meet((around + (2,), max(passed, worth(at(points, around))))))
    return ("go", part[1], meet((goal, passed)))


def machine_by_the_words(points):
    """The machine of points, ahead of being pressed, sentence by sentence; it may have states that plain leaves out."""
    states, rows = [((), 0)], []

    def meet(state):
        if state not in states:
            states.append(state)
        return states.index(state)

    while len(rows) < len(states):
        path, rank = states[len(rows)]
        rows.append((rank, tuple(plain(opened(points, path, 0, letter, meet)) for letter in bits(marks_of(points)))))
    return ("machine", marks_of(points), tuple(rows))


def small_condition(chance, states):
    """A condition of at most 3 nodes."""
    if chance.random() < 0.1:
        return (chance.choice(("yes", "no")),)
    one, other = [go(chance.randrange(2), chance.randrange(states)) for _ in range(2)]
    return one if chance.random() < 0.3 else (chance.choice(("both", "either")), one, other)


class ByHand(Case):
    def test_by_hand(self):
        told = machine_of_points(points=F)
        ahead = ("machine", ("x",), tuple(
            (rank, (go(0, 2), ("either", go(0, 1), go(0, 2)))) for rank in (0, 2, 1)))
        self.assertEqual(told, pressed(ahead))
        self.assertEqual(machine_by_the_words(F), ahead)
        self.assertTrue(lets_by(told, W))
        self.assertTrue(lets_by(told, ("wood", ("x",), ((("x",), 0, 1), ((), 1, 1)))))
        self.assertFalse(lets_by(told, ("wood", ("x",), ((("x",), 1, 0), ((), 1, 0)))))

    def test_points_of_by_hand(self):
        one = ("machine", (), ((1, (go(0, 0),)),))
        told = points_of(machine=one)
        self.assertEqual(nodes_of(told, ("wood", (), (((), 0, 0),))), ())
        other = points_of(("machine", (), ((0, (go(0, 0),)),)))
        self.assertEqual(nodes_of(other, ("wood", (), (((), 0, 0),))), (0,))
        for word, nodes in (("yes", (0,)), ("no", ())):
            told = points_of(("machine", ("x",), ((3, ((word,), (word,))),)))
            self.assertEqual(nodes_of(told, ("wood", ("x",), (((), 0, 0),))), nodes)
        told = points_of(("machine", ("x",), ((0, (("no",), ("yes",))),)))
        self.assertEqual(nodes_of(told, W), (0,))

    def test_small_ones(self):
        for points, told in (
            (("yes",), ("machine", (), ((0, (("yes",),)),))), (("mark", "x"), ("machine", ("x",), ((0, (("no",), ("yes",))),))),
            (("bare", "x"), ("machine", ("x",), ((0, (("yes",), ("no",))),))), (("next", 1, ("no",)), ("machine", (), ((0, (go(1, 1),)), (0, (("no",),))))),
            (("least", "z", point()), ("machine", (), ((0, (go(0, 1),)), (1, (go(0, 1),))))), (("most", "z", point()), ("machine", (), ((0, (go(0, 1),)), (0, (go(0, 1),))))),
            (("both", ("mark", "x"), ("next", 0, ("mark", "x"))), ("machine", ("x",), ((0, (("no",), go(0, 1))), (0, (("no",), ("yes",)))))),
        ):
            self.assertEqual(machine_of_points(points), told, points)

    def test_the_same_formula_at_two_places_is_two_states(self):
        points = ("both", ("next", 0, ("mark", "x")), ("next", 0, ("mark", "x")))
        both = ("both", go(0, 1), go(0, 2))
        self.assertEqual(machine_of_points(points), ("machine", ("x",), ((0, (both, both)), (0, (("no",), ("yes",))), (0, (("no",), ("yes",))))))

    def test_worths(self):
        """least in most in least; two binders of one word have equal worths."""
        inner = ("least", "a", ("either", point("a"), ("next", 1, ("point", "b"))))
        points = ("least", "c", ("most", "b", ("both", inner, ("next", 0, ("next", 1, ("point", "c"))))))
        self.assertEqual([worth(part) for part in parts(points) if part[0] in ("least", "most")], [3, 2, 1])
        self.assertEqual(machine_of_points(points), pressed(machine_by_the_words(points)))
        equal = ("least", "c", ("least", "b", ("either", point("b"), ("next", 0, ("both", ("point", "c"), ("mark", "x"))))))
        self.assertEqual([worth(part) for part in parts(equal) if part[0] in ("least", "most")], [1, 1])
        self.assertEqual(machine_of_points(equal), pressed(machine_by_the_words(equal)))

    def test_points_that_are_passed_on_one_way_around(self):
        """A point opens what binds it, where another point stands that opens the next one: the greatest worth counts."""
        points = ("most", "c", ("next", 0, ("least", "b", ("either", ("point", "c"), ("next", 1, ("most", "a", ("both", ("point", "b"), ("mark", "x"))))))))
        self.assertTrue(is_points(points))
        told = machine_by_the_words(points)
        self.assertIn(2, [rank for rank, _ in told[2]])
        self.assertEqual(machine_of_points(points), pressed(told))

    def test_what_plain_leaves_out_is_not_met(self):
        points = ("both", ("no",), nexts(40))
        self.assertEqual(machine_of_points(points), ("machine", (), ((0, (("no",),)),)))
        big = ("either", ("mark", "x"), wide(3001))
        self.assertEqual(machine_of_points(big), ("machine", ("x",), ((0, (("no",), ("yes",))),)))


class Hearts(Case):
    def test_by_the_words(self):
        chance = dice(600)
        for _ in range(500):
            points = some_points(chance, chance.randint(1, 14))
            told = machine_of_points(points)
            self.assertTrue(is_machine(told))
            self.assertEqual(told, pressed(machine_by_the_words(points)), points)
            self.assertEqual(told[1], marks_of(points))

    def test_points_are_machines(self):
        chance = dice(601)
        seen = [0, 0]
        for _ in range(1000):
            points = some_points(chance, chance.randint(1, 14))
            wood = some_wood_of(chance, marks_of(points), chance.randint(1, 5))
            fine = 0 in nodes_by_rounds(points, wood)
            seen[fine] += 1
            self.assertIs(lets_by(machine_of_points(points), wood), fine, (points, wood))
            self.assertIs(lets_by(machine_of_points(denied(points)), wood), not fine)
            if points[0] in ("least", "most"):
                self.assertIs(lets_by(machine_of_points(unrolled(points)), wood), fine)
        self.assertGreater(min(seen), 300)

    def test_machines_are_points(self):
        chance = dice(602)
        seen = [0, 0]
        for _ in range(900):
            scope = chance.choice(((), (), ("x",), ("x", "y")))
            machine = some_machine(chance, scope, chance.randint(1, 4), 5, chance.choice((2, 2, 3)))
            told = told_or_most(points_of, machine)
            if isinstance(told, int):
                self.assertIn(told, (60, 4000))
                continue
            self.assertTrue(is_points(told))
            self.assertLessEqual(set(marks_of(told)), set(scope))
            for _ in range(3):
                wood = some_wood_of(chance, scope, chance.randint(1, 4))
                fine = lets_by(machine, wood)
                seen[fine] += 1
                self.assertIs(0 in nodes_of(told, wood), fine, (machine, wood))
        self.assertGreater(min(seen), 600)

    def test_there_and_back_again(self):
        chance = dice(603)
        met = 0
        for _ in range(200):
            points = some_points(chance, chance.randint(1, 9), ("x",))
            machine = machine_of_points(points)
            told = told_or_most(points_of, machine)
            if len(machine[2]) <= 4 and not isinstance(told, int):
                met += 1
                wood = some_wood_of(chance, ("x",), 4)
                self.assertEqual(nodes_of(told, wood), nodes_of(points, wood))
        self.assertGreater(met, 100)

    def test_ranks_in_each_sequence(self):
        """Three states that lead to one another, with all rows of ranks, on all woods of two nodes."""
        woods = all_woods((), 1) + all_woods((), 2)
        rows = (("both", go(0, 1), go(1, 2)), ("either", go(0, 0), go(0, 2)), ("either", go(0, 0), go(1, 1)))
        for ranks in [(one, two, three) for one in range(4) for two in range(4) for three in range(4)]:
            machine = ("machine", (), tuple((rank, (row,)) for rank, row in zip(ranks, rows)))
            told = points_of(machine)
            for wood in woods:
                self.assertIs(0 in nodes_of(told, wood), lets_by(machine, wood))


class Limits(Case):
    def test_400_states(self):
        """So many next within one another are so many states, and one more; they are few deep."""
        row = [nexts(39) for _ in range(10)]
        points = row[0]
        for other in row[1:]:
            points = ("both", points, other)
        self.assertEqual(len(machine_of_points(points)[2]), 391)
        self.assertEqual(len(machine_of_points(("both", points, nexts(9)))[2]), 400)
        self.many(400, machine_of_points, ("both", points, nexts(10)))

    def test_1600_nodes(self):
        """A tree of so many next with a condition of twice as many nodes, but one."""
        def tree(many):
            row = [("next", 0, ("point", "z"))] * many
            while len(row) > 1:
                row = [("both", *row[at:at + 2]) if at + 1 < len(row) else row[at] for at in range(0, len(row), 2)]
            return ("most", "z", row[0])

        self.assertEqual(len(machine_of_points(tree(800))[2]), 2)
        self.many(1600, machine_of_points, tree(801))
        self.many(1600, machine_of_points, ("next", 0, tree(801)))
        self.assertEqual(len(machine_of_points(("both", ("no",), tree(801)))[2]), 1)

    def test_30_deep(self):
        for many, fine in ((29, True), (30, False)):
            points = point()
            for _ in range(many):
                points = ("either", point(), points)
            if fine:
                self.assertTrue(is_machine(machine_of_points(("least", "z", points))))
            else:
                self.many(30, machine_of_points, ("least", "z", points))
                self.many(30, machine_of_points, ("next", 1, ("least", "z", points)))

    def test_opening_that_grows(self):
        """Each point opens what binds it, with two points of the next one in it: far too many nodes to write down."""
        names = [first + second for first in "abcd" for second in "pqrst"]
        points = ("both", ("point", names[17]), ("point", names[17]))
        for name, around in list(zip(names[1:18], names[:17]))[::-1]:
            points = ("most", name, ("both", ("both", ("point", around), ("point", around)) if around != names[0] else ("yes",), ("next", 0, points)))
        points = ("most", names[0], ("next", 0, points))
        start = time.time()
        if is_points(points):
            self.assertIn(told_or_most(machine_of_points, points), (30, 400, 1600))
        self.assertLess(time.time() - start, 5)

    def test_the_size_of_what_is_unfolded(self):
        """Nodes and depths are counted as the formula grows, so that no formula is told that is none."""
        chance = dice(588)
        large = 0
        for _ in range(120):
            machine = pressed(some_machine(chance, chance.choice(((), ("x",), ("x", "y"))), chance.randint(1, 4), 4, chance.choice((2, 3))))
            grown = Unfolding(machine[1], machine[2]).of_state(0, ())
            if grown.nodes <= 4000:
                large += grown.nodes > 500
                self.assertEqual(grown.nodes, len(parts(grown.formula)))
                self.assertEqual(grown.deep, depth(grown.formula))
                self.assertEqual(grown.open_states, ())
        self.assertGreater(large, 3)

    def test_four_states(self):
        five = ("machine", (), tuple((0, (go(0, (at + 1) % 5),)) for at in range(5)))
        self.many(4, points_of, five)
        four = ("machine", (), tuple((at, (go(at % 2, (at + 1) % 4),)) for at in range(4)))
        self.assertTrue(is_points(points_of(four)))
        # What is not come to does not count.
        self.assertTrue(is_points(points_of(("machine", (), ((0, (go(0, 0),)),) + five[2]))))

    def test_formulas_that_would_be_too_large(self):
        both = ("both", ("both", go(0, 0), go(1, 1)), ("both", go(0, 2), go(1, 3)))
        machine = ("machine", ("x", "y", "z"), tuple((rank, tuple(("either", both, go(at % 2, at % 4)) for at in range(8))) for rank in (3, 2, 1, 0)))
        start = time.time()
        self.assertRaises(TooMany, points_of, machine)
        self.assertLess(time.time() - start, 2)

    def test_no_too_many(self):
        chance = dice(604)
        for _ in range(3000):
            scope, states = chance.choice((((), 3), (("x",), 2)))
            rows = tuple((chance.randrange(7), tuple(small_condition(chance, states) for _ in bits(scope))) for _ in range(states))
            told = points_of(("machine", scope, rows))
            self.assertLessEqual(depth(told), 60)
        rows = (("both", go(0, 1), go(1, 2)), ("either", go(0, 0), go(0, 2)), ("either", go(0, 0), go(1, 1)))
        for ranks in [(one, two, three) for one in range(6) for two in range(6) for three in range(6)]:
            self.assertTrue(is_points(points_of(("machine", (), tuple((rank, (row,)) for rank, row in zip(ranks, rows))))))

    def test_soon(self):
        chance = dice(605)
        lots = [some_points(chance, 14) for _ in range(200)]
        start = time.time()
        for points in lots:
            machine_of_points(points)
        self.assertLess(time.time() - start, 1)


class Errors(Case):
    def test_errors(self):
        for thing in junk_but(("yes",)) + [("least", "z", ("point", "z")), wide(4001)]:
            self.fails(BadPoints, machine_of_points, thing)
        for thing in junk_but():
            self.fails(BadMachine, points_of, thing)
        one = ("machine", (), ((0, (go(0, 0),)),))
        for thing in wrong_parts(one):
            if not is_machine(thing):
                self.fails(BadMachine, points_of, thing)
        self.assertTrue(is_points(points_of(contrary(one))))
