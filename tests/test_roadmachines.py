"""Point [64] as far as it speaks of machines, with [63]."""

import time

from allboughs.conditions import goals
from allboughs.errors import BadRoads
from allboughs.machines import is_machine, pressed
from allboughs.plainroads import as_points
from allboughs.playing import lets_by
from allboughs.pointing import machine_of_points
from allboughs.roadmachines import machine_of_roads
from allboughs.roadconditions import AtLetter
from allboughs.roadparts import Roads
from allboughs.roads import is_roads, nodes_of_roads
from tests.pointlots import depth, nodes_by_roads, parts, some_plain_saying, some_saying
from tests.support import Case, dice, junk_but, some_wood_of
from tests.test_compiling import told_or_most
from tests.test_roads import ALL, MX, MY, W, joined, nots


def names_in(roads):
    """The scope of the names of a roads formula."""
    return tuple(sorted({part[1] for part in parts(roads) if part[0] in ("mark", "bare")}))


def flat_saying(chance, nodes):
    """A saying of about so many nodes without some and every."""
    if nodes <= 1:
        return (chance.choice(("mark", "bare")), chance.choice("xyz"))
    if chance.random() < 0.2:
        return ("not", flat_saying(chance, nodes - 1))
    half = chance.randint(1, max(1, nodes - 2))
    return (chance.choice(("both", "either")), flat_saying(chance, half), flat_saying(chance, max(1, nodes - 1 - half)))


def flat_telling(chance, nodes, lasting):
    """A telling of about so many nodes without some and every; lasting counts what may still last in it."""
    if nodes <= 2:
        return chance.choice((("here", flat_saying(chance, 1)), ("goes", chance.randrange(2))))
    words = ["here", "not", "both", "either", "both", "either"] + ["next", "until", "once", "ever"] * (3 if lasting[0] else 0)
    word = chance.choice(words)
    if word == "here":
        return (word, flat_saying(chance, min(nodes - 1, 5)))
    lasting[0] -= word in ("next", "until", "once", "ever")
    if word in ("not", "next", "once", "ever"):
        return (word, flat_telling(chance, nodes - 1, lasting))
    half = chance.randint(1, nodes - 2)
    return (word, flat_telling(chance, half, lasting), flat_telling(chance, max(1, nodes - 1 - half), lasting))


def flat_roads(chance, many):
    """A roads formula of at most 60 nodes with so many some and every, none of them within another one."""
    while True:
        rows = [(chance.choice(("some", "every")), flat_telling(chance, chance.randint(2, 52 // many), [3])) for _ in range(many)]
        told = rows[0]
        for row in rows[1:]:
            told = (chance.choice(("both", "either")), told, row)
        if is_roads(told):
            return told


def nested_telling(chance, nodes, deep):
    """A telling of about so many nodes, full of ways and of heres in which roads stand, so many deep."""
    if nodes <= 2:
        inner = chance.choice((MX, MY, ("goes", 0), ("goes", 1)))
        if deep and chance.random() < 0.5:
            return ("here", (chance.choice(("some", "every")), nested_telling(chance, chance.randint(1, 4), deep - 1)))
        return inner
    word = chance.choice(("both", "either", "both", "either", "not", "next", "until", "once", "ever"))
    if word in ("not", "next", "once", "ever"):
        return (word, nested_telling(chance, nodes - 1, deep))
    half = chance.randint(1, nodes - 2)
    return (word, nested_telling(chance, half, deep), nested_telling(chance, nodes - 1 - half, deep))


class ByHand(Case):
    def test_by_hand(self):
        told = machine_of_roads(roads=ALL)
        self.assertTrue(is_machine(told))
        self.assertEqual(told[1], ("x",))
        for node in range(3):
            rows = [(letter, *[{0: node, node: 0}.get(goal, goal) for goal in goals]) for letter, *goals in W[2]]
            rows[0], rows[node] = rows[node], rows[0]
            wood = ("wood", ("x",), tuple(rows))
            self.assertIs(lets_by(told, wood), node in (0, 2))
        child = machine_of_roads(("some", ("both", ("goes", 0), ("next", MX))))
        self.assertTrue(lets_by(child, ("wood", ("x",), (((), 1, 0), (("x",), 1, 1)))))
        self.assertFalse(lets_by(child, ("wood", ("x",), (((), 0, 1), (("x",), 1, 1)))))

    def test_names(self):
        for roads in (("some", ("goes", 0)), ("some", ("ever", ("goes", 1))), ("every", ("not", ("ever", ("goes", 1))))):
            self.assertEqual(machine_of_roads(roads)[1], ())
        self.assertEqual(machine_of_roads(("both", ("bare", "b"), ("some", ("once", ("here", ("mark", "a"))))))[1], ("a", "b"))
        one = ("wood", (), (((), 0, 0),))
        self.assertTrue(lets_by(machine_of_roads(("some", ("ever", ("goes", 1)))), one))
        self.assertFalse(lets_by(machine_of_roads(("every", ("not", ("ever", ("goes", 1))))), one))

    def test_what_is_put_off_for_ever(self):
        wood = ("wood", ("x", "y"), (((), 0, 1), (("x",), 0, 0)))
        for fine, roads in (
            (False, ("some", ("ever", ("both", ("once", MX), ("once", MY))))), (True, ("some", ("ever", ("until", ("not", MY), MX)))),
            (False, ("some", ("both", ("ever", ("goes", 0)), ("once", MX)))), (True, ("every", ("either", ("once", MX), ("ever", ("goes", 0))))),
            (False, ("some", ("until", ("not", MY), MY))), (True, ("every", ("not", ("until", ("not", MX), MY)))),
        ):
            self.assertIs(0 in nodes_of_roads(roads, wood), fine, roads)
            self.assertIs(lets_by(machine_of_roads(roads), ("wood", names_in(roads), tuple(
                (tuple(name for name in letter if name in names_in(roads)), left, right) for letter, left, right in wood[2]))), fine, roads)

    def test_what_is_owed_in_turn(self):
        """Something is owed at each place, but all of it is paid again and again; or one part of it is not."""
        turns = ("wood", ("x", "y"), ((("x",), 1, 1), (("y",), 2, 2), ((), 0, 0)))
        stays = ("wood", ("x", "y"), ((("x",), 1, 1), (("y",), 2, 2), (("x",), 2, 2)))
        for first, second in ((MX, MY), (MY, MX)):
            for lasting in (
                ("ever", ("both", ("once", first), ("once", second))), ("ever", ("both", ("once", first), ("until", ("either", first, ("not", first)), second))),
                ("not", ("once", ("either", ("ever", ("not", first)), ("not", ("once", second))))),
            ):
                for quantifier in ("some", "every"):
                    for fine, roads in ((True, (quantifier, lasting)), (False, (quantifier, ("not", lasting)))):
                        self.assertIs(lets_by(machine_of_roads(roads), turns), fine, roads)
                        self.assertIs(0 in nodes_of_roads(roads, turns), fine, roads)
                        self.assertIs(lets_by(machine_of_roads(roads), stays), not fine, roads)


class Hearts(Case):
    def test_against_where_they_hold(self):
        chance = dice(620)
        seen = [0, 0]
        for _ in range(1200):
            roads = some_saying(chance, chance.randint(2, 13))
            if not is_roads(roads):
                continue
            told = machine_of_roads(roads)
            self.assertTrue(is_machine(told))
            self.assertEqual(pressed(told), told)
            self.assertEqual(told[1], names_in(roads))
            wood = some_wood_of(chance, told[1], chance.randint(1, 4))
            fine = 0 in nodes_of_roads(roads, wood)
            seen[fine] += 1
            self.assertIs(lets_by(told, wood), fine, (roads, wood))
            if len(wood[2]) < 3 and len(parts(roads)) < 9:
                self.assertIs(0 in nodes_by_roads(roads, wood, 5), fine)
        self.assertGreater(min(seen), 300)

    def test_roads_within_roads(self):
        chance = dice(627)
        seen = [0, 0]
        for _ in range(2000):
            roads = (chance.choice(("some", "every")), nested_telling(chance, chance.randint(3, 9), chance.randint(1, 2)))
            if is_roads(roads) and any(part[0] == "here" and part[1][0] in ("some", "every") for part in parts(roads)):
                told = machine_of_roads(roads)
                for _ in range(3):
                    wood = some_wood_of(chance, told[1], chance.randint(1, 4))
                    fine = 0 in nodes_of_roads(roads, wood)
                    seen[fine] += 1
                    self.assertIs(lets_by(told, wood), fine, (roads, wood))
        self.assertGreater(min(seen), 700)

    def test_ways_and_promises_beside_roads(self):
        """What asks nothing of the road is told apart from what does, in each sequence."""
        free = ("here", ("some", ("next", MX)))
        other = ("here", ("every", ("once", MY)))
        chance = dice(628)
        for bound in (("goes", 0), ("goes", 1), ("next", MX), ("once", MY), ("ever", MX), ("until", ("goes", 0), MY)):
            for joint, word in (("both", "either"), ("either", "both")):
                for telling in (
                    (joint, free, bound), (joint, bound, free), (word, (joint, bound, free), other), (word, other, (joint, free, bound)),
                    (joint, (word, bound, other), (word, free, ("not", bound))), (joint, ("not", bound), (joint, free, (word, bound, other))),
                ):
                    for quantifier in ("some", "every"):
                        roads = (quantifier, telling)
                        told = machine_of_roads(roads)
                        for _ in range(6):
                            wood = some_wood_of(chance, told[1], chance.randint(1, 4))
                            self.assertIs(lets_by(told, wood), 0 in nodes_of_roads(roads, wood), (roads, wood))

    def test_plain_ones_are_points_as_well(self):
        chance = dice(621)
        for _ in range(300):
            roads = some_plain_saying(chance, chance.randint(2, 12))
            if is_roads(roads):
                one, other = machine_of_roads(roads), machine_of_points(as_points(roads))
                self.assertEqual(one[1], other[1])
                for _ in range(3):
                    wood = some_wood_of(chance, one[1], chance.randint(1, 4))
                    self.assertIs(lets_by(one, wood), lets_by(other, wood))


class Sizes(Case):
    def test_nodes_and_depths_are_counted(self):
        """What is told of a condition's size is what TooMany is raised by."""
        chance = dice(629)
        met = 0
        for _ in range(2500):
            roads = some_saying(chance, chance.randint(4, 14))
            if is_roads(roads):
                for letter in ((), ("x",), ("x", "y")):
                    teller = AtLetter(Roads(roads), letter)
                    todo = [0]
                    for number in todo:
                        condition, nodes, deep = teller.of_state(number)
                        self.assertEqual((nodes, deep), (len(parts(condition)), depth(condition)))
                        met += nodes > 3
                        todo.extend(goal for goal in sorted({goal for _, goal in goals(condition)}) if goal not in todo)
        self.assertGreater(met, 1000)


class NoTooMany(Case):
    def test_none_within_another_one(self):
        chance = dice(622)
        seen = [0, 0]
        for _ in range(700):
            roads = flat_roads(chance, chance.randint(1, 4))
            told = machine_of_roads(roads)
            self.assertTrue(is_machine(told), roads)
            wood = some_wood_of(chance, told[1], chance.randint(1, 3))
            fine = lets_by(told, wood)
            seen[fine] += 1
            self.assertIs(0 in nodes_of_roads(roads, wood), fine)
        self.assertGreater(min(seen), 150)

    def test_all_three_that_last(self):
        """Four times three of them, all kinds, as large as they can be."""
        chance = dice(623)
        small = [("once", MX), ("ever", MY), ("until", ("goes", 0), MX), ("next", MY), ("not", ("until", MX, MY))]
        tellings = []
        for word in ("ever", "once", "next"):
            tellings.extend((word, (joint, one, other)) for joint in ("both", "either") for one in small for other in small)
        tellings.extend(("until", one, other) for one in small for other in small)
        for _ in range(150):
            rows = [(chance.choice(("some", "every")), chance.choice(tellings)) for _ in range(4)]
            roads = joined(chance.choice(("both", "either")), rows)
            self.assertTrue(is_roads(roads))
            told = machine_of_roads(roads)
            wood = some_wood_of(chance, ("x", "y"), 3)
            self.assertIs(lets_by(told, wood), 0 in nodes_of_roads(roads, wood))

    def test_plain_ones(self):
        chance = dice(624)
        for _ in range(600):
            roads = some_plain_saying(chance, chance.randint(8, 40))
            if is_roads(roads):
                self.assertTrue(is_machine(machine_of_roads(roads)))
        for words in (("until",), ("once", "until"), ("ever", "until"), ("next", "until"), ("until", "ever", "once")):
            told = ("either", ("mark", "x"), ("bare", "y"))
            for at in range(4):
                word = words[at % len(words)]
                first = ("here", ("either", nots(at, ("mark", "y")), ("both", told, ("mark", "x"))))
                told = (("some", "every")[at % 2], (word, first, MX) if word == "until" else (word, first))
            self.assertTrue(is_roads(told))
            self.assertTrue(is_machine(machine_of_roads(told)))

    def test_soon(self):
        chance = dice(625)
        lots = [some_saying(chance, 12) for _ in range(300)]
        start = time.time()
        for roads in lots:
            if is_roads(roads):
                machine_of_roads(roads)
        self.assertLess(time.time() - start, 3)
        start = time.time()
        for _ in range(30):
            roads = flat_roads(chance, 4)
            self.assertIn(told_or_most(lambda: is_machine(machine_of_roads(roads))), (True,))
        self.assertLess(time.time() - start, 5)

    def test_nested_ones_that_are_large(self):
        """Sayings with roads in tellings that speak of several at once: a machine, or TooMany, but soon."""
        chance = dice(626)
        start = time.time()
        for _ in range(40):
            told = ("mark", "x")
            for at in range(4):
                rows = [("here", told), ("once", ("either", MX, ("goes", at % 2)))] if at else [MX, ("goes", 0), ("next", MY)]
                lasting = [("until", ("goes", 1), MY), ("next", ("ever", MX))][chance.randrange(2)]
                told = (chance.choice(("some", "every")), ("both", joined("either", rows), lasting))
            if is_roads(told):
                self.assertIn(told_or_most(lambda: is_machine(machine_of_roads(told))), (True, 1600, 30))
        self.assertLess(time.time() - start, 8)


class Errors(Case):
    def test_errors(self):
        for thing in junk_but() + [MX, ("some", ("mark", "x")), nots(60, ("mark", "x"))]:
            self.fails(BadRoads, machine_of_roads, thing)
