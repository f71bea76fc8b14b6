"""Points [64] and [65] as far as they speak of points, with [60] and [67], and the example in [66]."""

from allboughs.errors import BadPlain, BadRoads, BadShort
from allboughs.plainroads import as_points, pointed
from allboughs.playing import lets_by
from allboughs.pointing import machine_of_points
from allboughs.points import is_points, marks_of, nodes_of
from allboughs.roads import is_roads, nodes_of_roads
from allboughs.shorts import hand, meant
from tests.meanings import wood_for
from tests.pointlots import nodes_by_rounds, nodes_by_roads, parts, some_plain_saying
from tests.support import Case, dice, junk_but, some_wood_of
from tests.test_formulas import ONES, TWOS
from tests.test_roads import MX, MY, joined, nots

SHORTS = [(word, "x") for word in ONES] + [(word, *names) for word in TWOS for names in (("x", "y"), ("y", "x"), ("x", "x"))]


def here(saying):
    """What holds at the first place."""
    return ("here", saying)


def deep(words, many):
    """A plain formula of so many some and every, one within the other."""
    told = ("mark", "x")
    for at in range(many):
        inner = here(("not", told))
        told = (("some", "every")[at % 2], (words[at % len(words)], inner))
    return told


class ByHand(Case):
    def test_by_hand(self):
        told = as_points(roads=("every", ("once", MX)))
        self.assertTrue(is_points(told))
        by_hand = ("least", "z", ("either", ("mark", "x"), ("both", ("next", 0, ("point", "z")), ("next", 1, ("point", "z")))))
        chance = dice(590)
        for _ in range(50):
            wood = some_wood_of(chance, ("x",), 4)
            self.assertEqual(nodes_of(told, wood), nodes_of(by_hand, wood))
        self.assertEqual(as_points(("mark", "x")), ("mark", "x"))
        self.assertEqual(as_points(("not", ("mark", "x"))), ("bare", "x"))

    def test_not_plain(self):
        for roads in (
            ("some", MX), ("every", ("goes", 0)), ("some", ("not", ("once", MX))), ("some", ("both", ("once", MX), ("once", MY))),
            ("some", ("once", ("not", MX))), ("some", ("next", ("next", MX))), ("some", ("until", MX, ("not", MY))), ("some", ("until", ("goes", 1), MX)),
            ("every", ("ever", ("once", MX))), ("some", ("either", MX, MY)), ("both", ("mark", "x"), ("some", MX)),
            ("every", ("next", here(("some", ("goes", 1))))), ("some", ("until", MX, here(("every", MX)))), ("not", ("some", ("here", ("mark", "y")))),
        ):
            self.assertTrue(is_roads(roads))
            self.fails(BadPlain, as_points, roads)

    def test_plain_ones(self):
        """What a some or every is around need not be plain in any other way: not, both, either stand as they like."""
        for roads in (
            ("some", ("until", MX, MY)), ("not", ("every", ("ever", here(("not", ("some", ("next", MX))))))), deep(("next", "once", "ever"), 4),
            ("both", ("some", ("next", MX)), ("either", ("bare", "y"), ("every", ("once", here(("both", ("mark", "x"), ("some", ("ever", MY)))))))),
        ):
            self.assertTrue(is_points(as_points(roads)))

    def test_four_deep(self):
        chance = dice(591)
        for words in (("next",), ("once",), ("ever",), ("next", "ever"), ("once", "next", "ever")):
            roads = deep(words, 4)
            told = as_points(roads)
            self.assertTrue(is_points(told))
            for _ in range(30):
                wood = some_wood_of(chance, ("x",), 4)
                self.assertEqual(nodes_of(told, wood), nodes_of_roads(roads, wood))

    def test_the_longest_ones(self):
        """Formulas of 60 nodes stay within 4,000 nodes, and 60 deep."""
        long = nots(40, ("mark", "x"))
        self.assertEqual(as_points(long), ("mark", "x"))
        row = joined("both", [("mark", "x"), ("bare", "y")] * 12)
        told = row
        for word in ("next", "next", "next", "next"):
            told = ("some", (word, here(told)))
        self.assertLessEqual(len(parts(told)), 60)
        self.assertTrue(is_points(as_points(told)))
        deep_one = joined("both", [("mark", "x")] * 20)
        for _ in range(4):
            deep_one = ("every", ("until", MX, here(deep_one)))
        self.assertTrue(is_roads(deep_one))
        self.assertTrue(is_points(as_points(deep_one)))


class Hearts(Case):
    def test_they_hold_at_the_same_places(self):
        chance = dice(592)
        mixed = 0
        for _ in range(600):
            roads = some_plain_saying(chance, chance.randint(2, 13))
            if is_roads(roads):
                told = as_points(roads)
                self.assertTrue(is_points(told))
                wood = some_wood_of(chance, ("x", "y"), chance.randint(1, 4))
                nodes = nodes_of(told, wood)
                mixed += 0 < len(nodes) < len(wood[2])
                self.assertEqual(nodes, nodes_of_roads(roads, wood))
                if len(wood[2]) < 3:
                    self.assertEqual(nodes_by_rounds(told, wood), nodes_by_roads(roads, wood, 5))
        self.assertGreater(mixed, 100)

    def test_four_ways_to_say_a_short(self):
        chance = dice(593)
        seen = {}
        for _ in range(2500):
            short = chance.choice(SHORTS)
            wood = wood_for(chance, set(short[1:]))
            told = pointed(short)
            fine = meant(short, wood)
            seen[short[0], fine] = seen.get((short[0], fine), 0) + 1
            self.assertIs(0 in nodes_of(told, wood), fine, (short, wood))
            self.assertIs(lets_by(hand(short), wood), fine)
        self.assertGreater(len(seen), 24)

    def test_their_marks_and_machines(self):
        chance = dice(594)
        for short in SHORTS:
            told = pointed(short=short)
            self.assertTrue(is_points(told))
            self.assertEqual(marks_of(told), tuple(sorted(set(short[1:]))))
            machine = machine_of_points(told)
            for _ in range(12):
                wood = wood_for(chance, set(short[1:]))
                self.assertIs(lets_by(machine, wood), meant(short, wood))

    def test_rare_ones(self):
        """One place, and roads, are rare among woods made by chance."""
        none = ((), 9, 9)
        for rows, one, road in (
            ([(("x",), 9, 9)], True, False), ([((), 1, 9), (("x",), 9, 9)], True, False), ([((), 1, 1), (("x",), 9, 9)], False, False),
            ([(("x",), 0, 9)], False, True), ([(("x",), 1, 9), (("x",), 9, 0)], False, True), ([(("x",), 1, 1), (("x",), 9, 0)], False, False),
            ([((), 9, 0)], False, False), ([(("x",), 1, 9), ((), 9, 2), (("x",), 9, 9)], False, False),
        ):
            rows = tuple(rows + [none] * (10 - len(rows)))
            for word, fine in (("one", one), ("road", road)):
                self.assertIs(0 in nodes_of(pointed((word, "x")), ("wood", ("x",), rows)), fine, (word, rows))
                self.assertIs(meant((word, "x"), ("wood", ("x",), rows)), fine)


class Errors(Case):
    def test_errors(self):
        for thing in junk_but() + [MX, ("some", ("mark", "x"))]:
            self.fails(BadRoads, as_points, thing)
        for thing in junk_but() + [("road",), ("road", "all"), ("same", "x"), ("one", "x", "y"), ("sub", "x", "y"), ["one", "x"], ("ones", "x")]:
            self.fails(BadShort, pointed, thing)
