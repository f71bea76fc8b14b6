"""Points [67] and [68] as far as they speak of is_short, meant and hand, and the example behind [69]."""

from allboughs.errors import BadShort, BadWood, NoName
from allboughs.machines import is_machine
from allboughs.shorts import hand, is_short, meant
from tests.support import Alike, Case, dice, junk_but, letters_to, machine_lets, some_wood_of
from tests.test_formulas import ONES, TWOS

X = ("x",)
LEFT = ("wood", X, ((X, 0, 1), ((), 1, 1)))
NONE = ("wood", X, (((), 0, 0),))
FULL = ("wood", X, ((X, 0, 0),))
ROOT = ("wood", X, ((X, 1, 1), ((), 1, 1)))
CHILD = ("wood", X, (((), 1, 2), (X, 2, 2), ((), 2, 2)))
CHILDREN = ("wood", X, (((), 1, 1), (X, 2, 2), ((), 2, 2)))
TURNS = ("wood", X, ((X, 1, 0), ((), 1, 1)))
EVEN = ("wood", X, ((X, 1, 1), ((), 0, 0)))
TRUNK = ("wood", X, ((X, 0, 0), (X, 1, 1)))


def t(left, right):
    """Both goes."""
    return ("both", ("go", 0, left), ("go", 1, right))


def fork(one, other):
    """One state on one way, the other one on the other."""
    return ("either", t(one, other), t(other, one))


N = ("no",)
A00, A01, A10, A11 = ("go", 0, 0), ("go", 0, 1), ("go", 1, 0), ("go", 1, 1)
# The conditions of each state for the letters without x and with x, or for (), x, y, and both.
HANDS = {
    "bare": ((0, t(0, 0), N),),
    "closed": ((0, t(0, 0), t(1, 1)), (0, N, t(1, 1))),
    "thread": ((0, t(0, 0), fork(1, 0)), (0, N, fork(1, 0))),
    "road": ((0, N, fork(0, 1)), (0, t(1, 1), N)),
    "one": ((1, fork(0, 1), t(1, 1)), (0, t(1, 1), N)),
    "finite": ((1, ("either", t(0, 0), t(1, 1)), ("either", t(0, 0), t(1, 1))), (0, t(1, 1), N)),
    "every": ((1, t(0, 0), ("yes",)),),
    "often": ((1, t(0, 0), t(1, 1)), (2, t(0, 0), t(1, 1))),
    "again": ((1, ("either", A00, A10), ("either", A01, A11)), (2, ("either", A00, A10), ("either", A01, A11))),
    "same": ((0, t(0, 0), N, N, t(0, 0)),),
    "apart": ((0, t(0, 0), t(0, 0), t(0, 0), N),),
    "below": ((0, t(0, 0), N, N, t(1, 1)), (0, N, N, t(1, 1), t(1, 1))),
    "first": ((0, t(0, 0), N, N, t(1, 1)), (0, t(1, 1), t(1, 1), N, N)),
}
MEANT = {
    "bare": (NONE,),
    "one": (ROOT, CHILD),
    "closed": (NONE, FULL, TRUNK),
    "thread": (NONE, FULL, LEFT, TURNS, TRUNK),
    "road": (LEFT, TURNS),
    "finite": (NONE, ROOT, CHILD, CHILDREN),
    "every": (FULL, LEFT, ROOT, CHILDREN, TURNS, EVEN, TRUNK),
    "often": (FULL, EVEN, TRUNK),
    "again": (FULL, LEFT, TURNS, EVEN, TRUNK),
}
WOODS = (LEFT, NONE, FULL, ROOT, CHILD, CHILDREN, TURNS, EVEN, TRUNK)


def pair(one, other):
    """A wood in which x is marked as in the one and y as in the other of two woods."""
    rows = []
    for mine in one[2]:
        for theirs in other[2]:
            letter = tuple(name for name, row in (("x", mine), ("y", theirs)) if "x" in row[0])
            many = len(other[2])
            rows.append((letter, mine[1] * many + theirs[1], mine[2] * many + theirs[2]))
    return ("wood", ("x", "y"), tuple(rows))


class IsShort(Case):
    def test_shorts(self):
        for word in ONES:
            self.assertIs(is_short((word, "x")), True)
            self.none_of(is_short, ((word,), (word, "x", "y"), (word, "root"), (word, 0), [word, "x"], (word, "abcdefghi"), (word, None)))
        for word in TWOS:
            self.assertIs(is_short(thing=(word, "x", "x")), True)
            self.assertTrue(is_short((word, "abcdefgh", "a")))
            self.none_of(is_short, ((word, "x"), (word, "x", "y", "z"), (word, "x", "same"), (word, "", "y"), [word, "x", "y"]))
        self.none_of(is_short, (("sub", "x", "y"), ("root", "x"), ("not", ("bare", "x")), ("Bare", "x"), "bare", (("bare",), "x")))
        self.none_of(is_short, ((Alike(), "x"), (Alike(), "x", "y"), ("bare", Alike()), Alike()))
        self.none_of(is_short, junk_but())


class Meant(Case):
    def test_by_hand(self):
        for word in ("road", "thread", "again", "every"):
            self.assertIs(meant((word, "x"), LEFT), True)
        for word in ("one", "closed", "finite", "often", "bare"):
            self.assertIs(meant(short=(word, "x"), wood=LEFT), False)

    def test_of_one_name(self):
        for word, fine in MEANT.items():
            for wood in WOODS:
                self.assertIs(meant((word, "x"), wood), wood in fine, (word, wood))

    def test_of_two_names(self):
        for word, fine in {
            "same": [(wood, wood) for wood in WOODS if wood != TRUNK] + [(FULL, TRUNK), (TRUNK, FULL), (TRUNK, TRUNK)],
            "apart": [(wood, NONE) for wood in WOODS] + [(NONE, wood) for wood in WOODS] + [
                (ROOT, CHILD), (CHILD, ROOT), (ROOT, CHILDREN), (CHILDREN, ROOT), (CHILD, EVEN), (EVEN, CHILD), (CHILDREN, EVEN),
                (EVEN, CHILDREN), (CHILD, TURNS), (TURNS, CHILD)],
            "below": [(NONE, NONE)] + [(wood, full) for wood in (FULL, LEFT, ROOT, TURNS, EVEN, TRUNK) for full in (FULL, TRUNK)],
            "first": [(NONE, NONE), (CHILD, CHILD), (CHILDREN, CHILDREN)] + [
                (wood, ROOT) for wood in (FULL, LEFT, ROOT, TURNS, EVEN, TRUNK)],
        }.items():
            for one in WOODS:
                for other in WOODS:
                    self.assertEqual(meant((word, "x", "y"), pair(one, other)), (one, other) in fine, (word, one, other))

    def test_equal_names(self):
        for wood in WOODS:
            self.assertTrue(meant(("same", "x", "x"), wood))
            self.assertEqual(meant(("apart", "x", "x"), wood), wood == NONE)
            self.assertEqual(meant(("below", "x", "x"), wood), wood in (NONE, FULL, TRUNK))
            self.assertEqual(meant(("first", "x", "x"), wood), wood in (NONE, ROOT, CHILD, CHILDREN))

    def test_what_is_not_come_to_does_not_count(self):
        wood = ("wood", X, (((), 0, 0), (X, 1, 0)))
        for word in ONES:
            self.assertEqual(meant((word, "x"), wood), meant((word, "x"), NONE), word)
        wood = ("wood", ("x", "y"), (((), 0, 0), (("x", "y"), 1, 1), (("x",), 0, 0)))
        for word in TWOS:
            self.assertTrue(meant((word, "x", "y"), wood), word)

    def test_as_the_machine_made_by_hand(self):
        chance = dice(80)
        seen = {}
        for _ in range(400):
            for words, names, scope in ((ONES, ("x",), X), (TWOS, ("x", "y"), ("x", "y"))):
                wood = some_wood_of(chance, scope, chance.randint(1, 4))
                for word in words:
                    short = (word, *names)
                    told = meant(short, wood)
                    self.assertEqual(told, machine_lets(hand(short), wood), (short, wood))
                    seen[(word, told)] = seen.get((word, told), 0) + 1
        self.assertEqual(len(seen), 26)

    def test_as_places_say(self):
        chance = dice(81)
        for _ in range(150):
            wood = some_wood_of(chance, ("x", "y"), chance.randint(1, 3))
            marks = letters_to(wood, 8)
            xs, ys = ({place for place in marks if name in marks[place]} for name in ("x", "y"))
            inner = {place for place in xs if len(place) < 8}
            self.assertEqual(meant(("bare", "x"), wood), not xs)
            self.assertEqual(meant(("same", "x", "y"), wood), xs == ys)
            self.assertEqual(meant(("apart", "y", "x"), wood), not xs & ys)
            self.assertEqual(meant(("closed", "x"), wood), all((*p, 0) in xs and (*p, 1) in xs for p in inner))
            self.assertEqual(meant(("thread", "x"), wood), all((*p, 0) in xs or (*p, 1) in xs for p in inner))
            above = {place for place in marks if any(place[:many] in xs for many in range(len(place)))}
            self.assertEqual(meant(("below", "x", "y"), wood), ys == xs | above)
            self.assertEqual(meant(("first", "x", "y"), wood), ys == xs - above)
            far = {place for place in xs if len(place) > 2}
            self.assertEqual(meant(("finite", "x"), wood), not far)
            self.assertEqual(meant(("one", "x"), wood), len(xs) == 1)
            levels = [[place for place in xs if len(place) == many] for many in range(9)]
            road = all(len(level) == 1 for level in levels) and all(
                two[0][:-1] == one[0] for one, two in zip(levels, levels[1:]))
            self.assertEqual(meant(("road", "x"), wood), road)
            every = all(any(place[:many] in xs for many in range(9)) for place in marks if len(place) == 8)
            self.assertEqual(meant(("every", "x"), wood), every)

    def test_400_nodes(self):
        rows = tuple((X if at == 398 else (), min(at + 1, 399), 399) for at in range(400))
        far = ("wood", X, rows)
        self.assertTrue(meant(("one", "x"), far) and meant(("finite", "x"), far))
        self.assertFalse(meant(("every", "x"), far) or meant(("road", "x"), far))
        rows = tuple((X if at == 398 else (), min(at + 1, 399), min(at + 1, 399)) for at in range(400))
        wide = ("wood", X, rows)
        self.assertTrue(meant(("finite", "x"), wide) and meant(("every", "x"), wide))
        self.assertFalse(meant(("one", "x"), wide))

    def test_further_names_mean_nothing(self):
        wood = ("wood", ("a", "x", "y"), ((("a", "y"), 0, 0),))
        self.assertTrue(meant(("bare", "x"), wood))
        self.assertFalse(meant(("bare", "a"), wood))
        self.assertTrue(meant(("same", "a", "y"), wood))

    def test_errors_in_order(self):
        for thing in junk_but():
            self.fails(BadShort, meant, thing, None)
            self.fails(BadWood, meant, ("bare", "a"), thing)
        self.assertEqual(self.fails(NoName, meant, ("bare", "a"), LEFT).name, "a")
        self.assertEqual(self.fails(NoName, meant, ("same", "z", "b"), LEFT).name, "b")
        self.assertEqual(self.fails(NoName, meant, ("same", "z", "x"), LEFT).name, "z")
        self.assertEqual(self.fails(NoName, meant, ("same", "x", "a"), LEFT).name, "a")


class Hand(Case):
    def test_told_exactly(self):
        for word, rows in HANDS.items():
            names = ("x", "y") if word in TWOS else X
            told = ("machine", names, tuple((row[0], row[1:]) for row in rows))
            self.assertEqual(hand((word, *names)), told, word)
            self.assertTrue(is_machine(told))
        self.assertEqual(set(HANDS), {*ONES, *TWOS})

    def test_names_in_another_sequence(self):
        self.assertEqual(hand(short=("below", "b", "a")), ("machine", ("a", "b"), (
            (0, (t(0, 0), N, N, t(1, 1))), (0, (N, t(1, 1), N, t(1, 1))))))
        self.assertEqual(hand(("first", "b", "a"))[2][1], (0, (t(1, 1), N, t(1, 1), N)))
        self.assertEqual(hand(("bare", "q"))[1], ("q",))

    def test_equal_names(self):
        self.assertEqual(hand(("same", "x", "x")), ("machine", X, ((0, (t(0, 0), t(0, 0))),)))
        self.assertEqual(hand(("apart", "x", "x")), ("machine", X, ((0, (t(0, 0), N)),)))
        self.assertEqual(hand(("below", "x", "x")), ("machine", X, ((0, (t(0, 0), t(1, 1))), (0, (N, t(1, 1))))))
        self.assertEqual(hand(("first", "x", "x")), ("machine", X, ((0, (t(0, 0), t(1, 1))), (0, (t(1, 1), N)))))
        for word in TWOS:
            for wood in WOODS:
                self.assertEqual(machine_lets(hand((word, "x", "x")), wood), meant((word, "x", "x"), wood))

    def test_errors(self):
        for thing in junk_but():
            self.fails(BadShort, hand, thing)
        for thing in (("sub", "x", "y"), ("road", "x", "y"), ("same", "x"), ("one", "all")):
            self.fails(BadShort, hand, thing)
