"""Points [68] and [69] as far as they speak of spelled and spelled_out, and the example in [69]."""

import itertools

from allboughs.compiling import choices_of, machine_of
from allboughs.deciding import follows, means, parted, truth
from allboughs.errors import BadFormula, BadShort
from allboughs.formulas import free_names, is_formula, is_long, size_of
from allboughs.playing import lets_by
from allboughs.shorts import hand, meant
from allboughs.spelling import spelled, spelled_out
from tests.meanings import some_atom, wood_for
from tests.support import Case, dice, junk_but
from tests.test_compiling import told_or_most
from tests.test_formulas import ONES, TWOS, boths, nots

# The words of [68], with x, y and p, q, r, s as names of variables.
WORDS = {
    "bare": """("left", x, x)""",
    "one": """("both", ("not", ("left", x, x)), ("all", p, ("either", ("not", ("sub", p, x)), ("either", ("left", p, p), ("sub", x, p)))))""",
    "same": """("both", ("sub", x, y), ("sub", y, x))""",
    "apart": """free(x, y, p)""",
    "closed": """shut(x, p)""",
    "below": """("both", ("both", ("sub", x, y), shut(y, p)), ("all", p, ("either", ("not", ("both", ("sub", x, p), shut(p, q))),
        ("sub", y, p))))""",
    "first": """("both", ("both", ("sub", y, x), ("all", p, ("either", ("not", ("both", ("sub", y, p), shut(p, q))), ("sub", x, p)))),
        ("some", p, ("both", ("both", shut(p, q), ("both", within("left", x, p, q), within("right", x, p, q))), free(p, y, q))))""",
    "thread": """spun(x, p, q, r)""",
    "road": """("both", ("both", held(x, p), spun(x, p, q, r)), ("all", p, ("either", ("not", ("both", ("sub", p, x),
        ("both", held(p, q), spun(p, q, r, s)))), ("sub", x, p))))""",
    "finite": """("not", ("some", p, ("both", ("both", ("not", ("left", p, p)), spun(p, q, r, s)),
        ("all", q, ("either", ("not", ("both", shut(q, r), free(q, x, r))), free(q, p, r))))))""",
    "every": """("not", ("some", p, ("both", ("both", held(p, q), spun(p, q, r, s)), free(p, x, q))))""",
    "often": """("all", p, ("either", ("left", p, p), ("either", ("not", spun(p, q, r, s)), ("not", free(p, x, q)))))""",
    "again": """("some", p, ("both", ("both", ("not", ("left", p, p)), ("sub", p, x)), ("all", q, ("either", ("not", ("sub", q, p)),
        ("either", ("left", q, q), ("not", ("some", r, ("both", ("both", shut(r, s), free(r, p, s)),
        ("both", within("left", q, r, s), within("right", q, r, s))))))))))""",
}
PARTS = {
    "within": lambda way, u, v, k: ("some", k, ("both", (way, u, k), ("sub", k, v))),
    "free": lambda u, v, k: ("all", k, ("either", ("not", ("both", ("sub", k, u), ("sub", k, v))), ("left", k, k))),
    "shut": lambda u, k: ("both", PARTS["within"]("left", u, u, k), PARTS["within"]("right", u, u, k)),
    "lone": lambda way, u, v, k, m: ("some", k, ("both", (way, u, k), PARTS["free"](k, v, m))),
    "spun": lambda u, k, m, n: ("all", k, ("either", ("not", ("sub", k, u)), ("either", ("left", k, k), ("not", (
        "both", PARTS["lone"]("left", k, u, m, n), PARTS["lone"]("right", k, u, m, n)))))),
    "held": lambda u, k: ("some", k, ("both", ("root", k), ("sub", k, u))),
}
EASY = ("bare", "one", "same", "apart", "closed")


def by_the_words(short):
    """What [68] tells of a short."""
    names = [name for name in "abcdefg" if name not in short[1:]]
    return eval(WORDS[short[0]], dict(PARTS), {"x": short[1], "y": short[-1], **dict(zip("pqrs", names))})


def shorts(names):
    """All shorts of some names."""
    return [(word, name) for word in ONES for name in names] + [(word, *pair) for word in TWOS for pair in itertools.product(names, repeat=2)]


def spelled_by_hand(formula):
    """A formula with each short spelled."""
    if formula[0] in WORDS:
        return by_the_words(formula)
    if formula[0] in ("some", "all"):
        return (formula[0], formula[1], spelled_by_hand(formula[2]))
    if formula[0] in ("not", "both", "either"):
        return (formula[0], *[spelled_by_hand(part) for part in formula[1:]])
    return formula


class ByHand(Case):
    def test_by_hand(self):
        told = ("all", "b", ("either", ("not", ("both", ("sub", "b", "a"), ("sub", "b", "c"))), ("left", "b", "b")))
        self.assertEqual(spelled(short=("apart", "a", "c")), told)
        self.assertEqual(spelled_out(formula=("not", ("apart", "a", "c"))), ("not", told))
        self.assertEqual(spelled(("bare", "x")), ("left", "x", "x"))
        self.assertEqual(spelled(("same", "q", "b")), ("both", ("sub", "q", "b"), ("sub", "b", "q")))

    def test_by_the_words(self):
        for short in shorts(("x", "y", "a", "b", "c", "d", "ab")):
            told = spelled(short)
            self.assertEqual(told, by_the_words(short), short)
            self.assertTrue(is_formula(told))
            self.assertEqual(free_names(told), tuple(sorted(set(short[1:]))))

    def test_names_of_the_short_are_left_out(self):
        self.assertEqual(spelled(("closed", "a"))[1][1], "b")
        self.assertEqual(spelled(("closed", "b"))[1][1], "a")
        self.assertEqual(spelled(("apart", "a", "b"))[1], "c")
        self.assertEqual(spelled(("apart", "b", "b"))[1], "a")

    def test_example(self):
        """[69]: x is the road that goes left for ever."""
        wood = ("wood", ("x",), ((("x",), 0, 1), ((), 1, 1)))
        for word, fine in (("road", True), ("thread", True), ("again", True), ("one", False), ("closed", False), ("finite", False), ("often", False), ("every", True)):
            self.assertIs(meant((word, "x"), wood), fine)
            self.assertIs(means((word, "x"), wood), fine)
        self.assertEqual(truth(("all", "x", ("either", ("not", ("road", "x")), ("thread", "x"))))[0], "true")


class SpelledOut(Case):
    def test_by_hand(self):
        chance = dice(630)
        for _ in range(200):
            formula = chance.choice(shorts(("x", "y"))) if chance.random() < 0.5 else some_atom(chance, ("x", "y"))
            for _ in range(chance.randint(0, 4)):
                word = chance.choice(("not", "some", "all", "both", "either"))
                if word == "not":
                    formula = (word, formula)
                elif word in ("some", "all"):
                    formula = (word, chance.choice("xa"), formula)
                else:
                    formula = (word, formula, chance.choice((("bare", "x"), ("one", "a"), ("sub", "x", "y"))))
            if not is_long(formula):
                continue
            told = told_or_most(spelled_out, formula)
            expected = spelled_by_hand(formula)
            self.assertEqual(told, expected if is_formula(expected) else 100)

    def test_100_nodes(self):
        closed = ("closed", "x")
        self.assertEqual(size_of(spelled(closed)), 9)
        ten = closed
        for _ in range(9):
            ten = ("both", ten, closed)
        self.assertEqual(size_of(ten), 19)
        self.assertEqual(size_of(spelled_out(("not", ten))), 100)
        self.many(100, spelled_out, ("not", ("not", ten)))
        self.assertEqual(size_of(spelled(("road", "x"))), 73)
        self.many(100, spelled_out, ("both", ("road", "x"), ("thread", "x")))
        self.many(100, spelled_out, boths_of(("finite", "x"), 50))
        self.assertEqual(spelled_out(nots(99)), nots(99))
        self.assertEqual(spelled_out(boths(50)), boths(50))

    def test_bound_names_are_not_caught(self):
        """The names of a spelled short are bound within it alone, though they are names of the formula around."""
        formula = ("some", "a", ("both", ("root", "a"), ("closed", "x")))
        self.assertEqual(spelled_out(formula), ("some", "a", ("both", ("root", "a"), by_the_words(("closed", "x")))))
        self.assertEqual(free_names(spelled_out(formula)), ("x",))


def boths_of(part, many):
    """So many times one formula, joined by both."""
    told = part
    for _ in range(many - 1):
        told = ("both", part, told)
    return told


class Hearts(Case):
    def test_three_ways_to_say_it(self):
        chance = dice(631)
        for short in shorts(("x", "y")):
            machine = told_or_most(machine_of, spelled(short))
            if short[0] in EASY:
                self.assertNotIsInstance(machine, int)
            if isinstance(machine, int):
                continue
            for at in range(20):
                wood = wood_for(chance, set(short[1:]))
                told = lets_by(machine, wood) if at else means(spelled(short), wood)
                self.assertIs(told, meant(short, wood), (short, wood))

    def test_parted_of_spelled_out(self):
        met = 0
        for short in shorts(("x", "y")):
            for formula in (short, ("not", short), ("some", "x", short)):
                told = told_or_most(parted, formula, spelled_out(formula))
                if not isinstance(told, int):
                    met += 1
                    self.assertIsNone(told, formula)
        self.assertGreater(met, 20)

    def test_no_too_many_for_two_shorts(self):
        """[69]: follows of two, and the sentence with all in front that says the same."""
        rows = shorts(("x",)) + [(word, *pair) for word in TWOS for pair in (("x", "y"), ("y", "x"))] + [("road", "y"), ("finite", "y"), ("again", "y")]
        chance = dice(632)
        pairs = [(one, other) for one in rows for other in rows if len({*one[1:], *other[1:]}) < 3]
        for one, other in chance.sample(pairs, 140):
            wood = follows(one, other)
            sentence = ("either", ("not", one), other)
            for name in sorted({*one[1:], *other[1:]}):
                sentence = ("all", name, sentence)
            self.assertIs(truth(sentence)[0] == "true", wood is None, (one, other))
            if wood is not None:
                full = {name for name in wood[1]}
                self.assertEqual(full, {*one[1:], *other[1:]})
                self.assertTrue(meant(one, wood))
                self.assertFalse(meant(other, wood))

    def test_machines_of_shorts_stay_made_by_hand(self):
        for short in shorts(("x", "y")):
            self.assertEqual(machine_of(short), hand(short))
            self.assertNotIsInstance(told_or_most(choices_of, short), int)


class Errors(Case):
    def test_errors(self):
        for thing in junk_but() + [("road",), ("road", "all"), ("same", "x"), ("one", "x", "y"), ("sub", "x", "y"), ["one", "x"], ("not", ("one", "x"))]:
            self.fails(BadShort, spelled, thing)
        for thing in junk_but() + [("road",), ("not", ("same", "x")), nots(101), ("both", ("same", "a", "b"), ("same", "c", "d"))]:
            self.fails(BadFormula, spelled_out, thing)
