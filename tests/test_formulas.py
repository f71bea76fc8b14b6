"""Points [50] and [69] as far as they speak of formulas, long formulas and sentences."""

from allboughs.errors import BadFormula
from allboughs.formulas import free_names, is_formula, is_long, is_sentence, size_of
from allboughs.words import KEPT
from tests.support import Alike, Case, deep, doubled, junk_but

F, G = ("sub", "x", "y"), ("root", "z")
ROAD = ("road", "x")
ONES = ("again", "bare", "closed", "every", "finite", "often", "one", "road", "thread")
TWOS = ("apart", "below", "first", "same")


def nots(many, atom=F):
    """A formula with so many nodes."""
    for _ in range(many - 1):
        atom = ("not", atom)
    return atom


def boths(leaves, atom=F):
    """A formula with so many atoms, as flat as can be."""
    if leaves == 1:
        return atom
    return ("both", boths((leaves + 1) // 2, atom), boths(leaves // 2, atom))


class IsFormula(Case):
    def test_formulas(self):
        for formula in (
            F, G, ("left", "x", "x"), ("right", "a", "abcdefgh"), ("not", F), ("both", F, G), ("either", F, F), ("some", "x", F),
            ("all", "a", F), ("some", "x", ("some", "x", F)), ("not", ("both", ("all", "z", G), ("either", G, ("not", G)))),
            ("root", "yes"), ("root", "go"),
        ):
            self.assertIs(is_formula(formula), True, formula)
            self.assertIs(is_long(formula), True)
        self.assertIs(is_formula(thing=F), True)

    def test_no_formulas(self):
        things = (
            ("sub", "x"), ("sub", "x", "y", "z"), ("root", "x", "y"), ("root",), ("left", "x"), ("sub", "x", "root"), ("sub", "X", "y"),
            ("sub", "", "y"), ("sub", "abcdefghi", "y"), ("not",), ("not", F, F), ("both", F), ("both", F, F, F), ("either", F, None),
            ("some", "x"), ("some", F), ("some", "some", F), ("all", ("x",), F), ("all", "x", "y"), ("some", "x", F, F), ["sub", "x", "y"],
            ("not", ["sub", "x", "y"]), ("sub", 0, 1), ("Sub", "x", "y"), (F,), F + F, ("up", "x", "y"), ("not", ("not", None)),
            ("some", None, F), ("some", ["x"], F), ("both", F, [F]), ("root", ("x",)),
            (Alike(), "x"), (Alike(), "x", "y"), (Alike(), F), (Alike(), F, F), ("root", Alike()), ("not", Alike()),
        )
        self.none_of(is_formula, things)
        self.none_of(is_long, things)
        for judge in (is_formula, is_long, is_sentence):
            self.none_of(judge, junk_but())
        for word in KEPT:
            self.assertFalse(is_formula(("root", word)))
            self.assertFalse(is_formula(("some", word, F)))

    def test_100_nodes(self):
        self.assertTrue(is_formula(nots(100)))
        self.assertFalse(is_formula(nots(101)))
        self.assertTrue(is_formula(boths(50)))
        self.assertTrue(is_formula(("not", boths(50))))
        self.assertFalse(is_formula(boths(51)))
        self.assertFalse(is_formula(("not", ("not", boths(50)))))
        self.assertFalse(is_formula(("not", deep(3000))))
        self.assertFalse(is_formula(nots(20000)))
        self.assertFalse(is_formula(doubled("either", F, 40)))

    def test_3_free_names(self):
        three = ("both", F, G)
        self.assertTrue(is_formula(three))
        four = ("both", three, ("root", "a"))
        self.assertFalse(is_formula(four))
        self.assertFalse(is_formula(("some", "a", four)))
        self.assertFalse(is_formula(("not", ("all", "x", ("some", "a", four)))))
        self.assertTrue(is_formula(("both", three, ("some", "a", ("root", "a")))))
        self.assertTrue(is_formula(("both", ("some", "z", three), ("root", "a"))))
        self.assertFalse(is_formula(("both", ("some", "z", three), ("both", ("root", "a"), ("root", "b")))))
        five = ("some", "a", ("some", "b", ("some", "c", ("some", "d", ("some", "e", ("both", ("sub", "a", "b"), ("root", "c")))))))
        self.assertTrue(is_formula(five))


class Long(Case):
    def test_shorts_as_atoms(self):
        for word in ONES:
            self.assertTrue(is_long((word, "x")))
            self.assertFalse(is_formula((word, "x")))
            self.none_of(is_long, ((word,), (word, "x", "y"), (word, "one"), (word, F), (word, 1)))
        for word in TWOS:
            self.assertTrue(is_long((word, "x", "y")))
            self.assertTrue(is_long((word, "x", "x")))
            self.assertFalse(is_formula((word, "x", "y")))
            self.none_of(is_long, ((word,), (word, "x"), (word, "x", "y", "z"), (word, "x", "same"), (word, "x", None)))

    def test_shorts_within(self):
        formula = ("all", "x", ("either", ("not", ROAD), ("thread", "x")))
        self.assertIs(is_long(thing=formula), True)
        self.assertFalse(is_formula(formula))
        self.assertTrue(is_sentence(formula))
        self.assertEqual(size_of(formula), 5)
        self.assertEqual(free_names(("both", ("apart", "b", "a"), ("some", "c", ("one", "c")))), ("a", "b"))

    def test_the_same_limits(self):
        self.assertTrue(is_long(nots(100, ROAD)))
        self.assertFalse(is_long(nots(101, ROAD)))
        self.assertFalse(is_long(boths(51, ("same", "x", "y"))))
        self.assertTrue(is_long(("both", ("same", "a", "b"), ("bare", "c"))))
        self.assertFalse(is_long(("both", ("same", "a", "b"), ("below", "c", "d"))))


class Sentences(Case):
    def test_sentences(self):
        for sentence in (
            ("some", "a", ("root", "a")), ("all", "a", ("some", "b", ("left", "a", "b"))),
            ("not", ("some", "x", ("all", "x", ("root", "x")))), ("all", "x", ("both", ("root", "x"), ("some", "y", F))),
            ("some", "a", ("bare", "a")),
        ):
            self.assertIs(is_sentence(sentence), True)
        self.assertIs(is_sentence(thing=("some", "a", ("root", "a"))), True)
        self.none_of(is_sentence, (F, ("some", "x", F), ("both", ("some", "z", G), G), ROAD, ("all", "a", G), nots(101)))


class Told(Case):
    def test_free_names(self):
        self.assertEqual(free_names(F), ("x", "y"))
        self.assertEqual(free_names(formula=("right", "b", "a")), ("a", "b"))
        self.assertEqual(free_names(("sub", "x", "x")), ("x",))
        self.assertEqual(free_names(("some", "x", F)), ("y",))
        self.assertEqual(free_names(("some", "a", F)), ("x", "y"))
        self.assertEqual(free_names(("both", ("some", "x", F), ("root", "x"))), ("x", "y"))
        self.assertEqual(free_names(("some", "x", ("both", ("all", "x", ("root", "x")), ("sub", "x", "b")))), ("b",))
        self.assertEqual(free_names(("all", "x", ("some", "y", F))), ())

    def test_size_of(self):
        self.assertEqual(size_of(F), 1)
        self.assertEqual(size_of(formula=("not", ("both", F, ("some", "x", G)))), 5)
        self.assertEqual(size_of(nots(100)), 100)
        self.assertEqual(size_of(boths(50)), 99)
        self.assertEqual(size_of(("either", ROAD, ROAD)), 3)

    def test_errors(self):
        for function in (free_names, size_of):
            for thing in junk_but():
                self.fails(BadFormula, function, thing)
            for thing in (nots(101), ("both", ("both", F, G), ("root", "a")), ("road", "x", "y"), ["root", "x"]):
                self.fails(BadFormula, function, thing)
