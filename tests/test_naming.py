"""Points [83] and [84]."""

import itertools

from allboughs.deciding import means, parted, truth
from allboughs.errors import BadFormula, BadNames
from allboughs.formulas import free_names, is_formula, is_sentence
from allboughs.grafting import exchanged
from allboughs.naming import is_twin, mirrored, plainly_named, renamed
from tests.meanings import some_formula, some_plain, true_on, wood_for
from tests.support import Case, dice, junk_but
from tests.test_compiling import told_or_most
from tests.test_formulas import nots

NAMES = ("x", "y", "z")
F, G = ("sub", "x", "y"), ("root", "x")
LONG = (("road", "x"), ("not", ("same", "x", "y")), ("some", "x", ("one", "x")))


def bound_names(formula):
    """The names that stand bound."""
    told = {formula[1]} if formula[0] in ("some", "all") else set()
    for part in formula[1:]:
        if isinstance(part, tuple):
            told |= bound_names(part)
    return told


def exchanged_marks(wood, pairs):
    """The wood with its marks exchanged: each new name has the places of the name ahead of it."""
    new = dict(pairs)
    rows = [(tuple(sorted(new.get(name, name) for name in letter)), left, right) for letter, left, right in wood[2]]
    return ("wood", tuple(sorted(new.get(name, name) for name in wood[1])), tuple(rows))


def numbered(formula, around=()):
    """The formula with each bound name told by how many binders stand between, so that twins are equal."""
    if formula[0] in ("some", "all"):
        return (formula[0], numbered(formula[2], (formula[1], *around)))
    if formula[0] in ("not", "both", "either"):
        return (formula[0], *[numbered(part, around) for part in formula[1:]])
    return (formula[0], *[around.index(name) if name in around else name for name in formula[1:]])


def plainly_named_by_the_words(formula, names, around=()):
    """The formula with plain names, where names are those that are not free in it."""
    if formula[0] in ("some", "all"):
        inner = plainly_named_by_the_words(formula[2], names, (*around, formula[1]))
        return (formula[0], names[len(around)], inner)
    if formula[0] in ("not", "both", "either"):
        return (formula[0], *[plainly_named_by_the_words(part, names, around) for part in formula[1:]])
    told = []
    for name in formula[1:]:
        found = [at for at, one in enumerate(around) if one == name]
        told.append(names[found[-1]] if found else name)
    return (formula[0], *told)


def formulas_by_chance(seed, many, nodes, names=NAMES):
    """Formulas with some and all."""
    chance = dice(seed)
    for _ in range(many):
        formula = some_formula(chance, chance.randint(1, nodes), names)
        if is_formula(formula):
            yield formula, chance


class Renamed(Case):
    def test_by_hand(self):
        self.assertEqual(renamed(formula=F, pairs=(("x", "a"),)), ("sub", "a", "y"))
        self.assertEqual(renamed(F, ()), F)
        self.assertEqual(renamed(F, (("x", "y"), ("y", "x"))), ("sub", "y", "x"))
        self.assertEqual(renamed(F, (("x", "y"), ("y", "z"))), ("sub", "y", "z"))
        self.assertEqual(renamed(F, (("x", "x"),)), F)
        formula = ("both", ("root", "x"), ("some", "x", ("sub", "x", "y")))
        self.assertEqual(renamed(formula, (("x", "a"),)), ("both", ("root", "a"), ("some", "x", ("sub", "x", "y"))))
        self.assertEqual(renamed(formula, (("x", "y"), ("y", "b"))), ("both", ("root", "y"), ("some", "x", ("sub", "x", "b"))))

    def test_bad_names(self):
        formula = ("both", ("sub", "x", "y"), ("some", "z", ("root", "z")))
        for pairs in junk_but(()) + [
            (("x", "z"),), (("z", "a"),), (("x", "y"),), (("a", "b"),), (("x", "a"), ("x", "b")), (("x", "a"), ("y", "a")), (("y", "a"), ("x", "b")),
            (("x", "all"),), (("all", "x"),), (("x", "A"),), [("x", "a")], (["x", "a"],), (("x",),), (("x", "a", "b"),), (("x", "abcdefghi"),),
            (("x", None),), ((None, "a"),), (("x", "a"), ("z", "b")), "xa", ("xa",), (("x", "x"), ("y", "x")), (("x", "a"), ("x", "a")),
            (("x", "y"), ("y", "z")),
        ]:
            self.fails(BadNames, renamed, formula, pairs)
        self.assertEqual(renamed(formula, (("x", "a"), ("y", "b")))[1], ("sub", "a", "b"))
        idle = ("some", "a", ("root", "x"))
        self.fails(BadNames, renamed, idle, (("x", "a"),))

    def test_on_woods_with_their_marks_exchanged(self):
        met = 0
        for formula, chance in formulas_by_chance(340, 250, 6):
            free = list(free_names(formula))
            old = sorted(chance.sample(free, chance.randint(0, len(free))))
            fits = [name for name in (*old, "a", "b") if name not in bound_names(formula)]
            new = chance.sample(fits, min(len(old), len(fits)))
            pairs = tuple(zip(old, new))
            if len(new) < len(old) or len(set(free) - set(old)) + len(set(new)) > 3:
                continue
            told = renamed(formula, pairs)
            self.assertTrue(is_formula(told))
            wood = wood_for(chance, free, 3)
            fine = told_or_most(means, formula, wood)
            if fine in (True, False):
                met += 1
                self.assertEqual(told_or_most(means, told, exchanged_marks(wood, pairs)), fine)
        self.assertGreater(met, 100)


class Twins(Case):
    def test_by_hand(self):
        self.assertIs(is_twin(one=("some", "a", ("root", "a")), other=("some", "b", ("root", "b"))), True)
        self.assertIs(is_twin(("some", "a", ("sub", "a", "x")), ("some", "x", ("sub", "x", "x"))), False)
        self.assertIs(is_twin(("some", "a", ("sub", "a", "x")), ("some", "a", ("sub", "a", "y"))), False)
        self.assertIs(is_twin(("some", "a", ("all", "b", ("sub", "a", "b"))), ("some", "b", ("all", "a", ("sub", "b", "a")))), True)
        self.assertIs(is_twin(("some", "a", ("all", "b", ("sub", "a", "b"))), ("some", "b", ("all", "a", ("sub", "a", "b")))), False)
        self.assertIs(is_twin(("some", "a", ("all", "a", ("sub", "a", "a"))), ("some", "b", ("all", "a", ("sub", "a", "a")))), True)
        self.assertIs(is_twin(("some", "a", ("root", "a")), ("all", "a", ("root", "a"))), False)
        self.assertIs(is_twin(F, F), True)
        self.assertIs(is_twin(F, ("sub", "y", "x")), False)
        self.assertIs(is_twin(("both", F, G), ("both", G, F)), False)

    def test_by_chance(self):
        formulas = [formula for formula, _ in formulas_by_chance(341, 100, 4, ("x", "y"))]
        seen = [0, 0]
        for one, other in itertools.product(formulas, repeat=2):
            fine = numbered(one) == numbered(other)
            seen[fine] += 1
            self.assertIs(is_twin(one, other), fine)
            self.assertIs(plainly_named(one) == plainly_named(other), fine)
        self.assertGreater(min(seen), 100)

    def test_twins_mean_one(self):
        met = 0
        for formula, _ in formulas_by_chance(342, 80, 5, ("x", "y")):
            told = plainly_named(formula)
            self.assertTrue(is_twin(formula, told))
            if told != formula and not isinstance(told_or_most(parted, formula, told), int):
                met += 1
                self.assertIsNone(parted(formula, told))
        self.assertGreater(met, 20)


class PlainlyNamed(Case):
    def test_by_hand(self):
        self.assertEqual(plainly_named(("some", "b", ("all", "c", ("sub", "b", "c")))), ("some", "a", ("all", "b", ("sub", "a", "b"))))
        self.assertEqual(plainly_named(formula=F), F)
        deep = ("some", "x", ("all", "y", ("some", "z", ("both", ("sub", "x", "y"), ("sub", "y", "z")))))
        self.assertEqual(plainly_named(deep), ("some", "a", ("all", "b", ("some", "c", ("both", ("sub", "a", "b"), ("sub", "b", "c"))))))

    def test_free_names_are_left_out(self):
        formula = ("both", ("sub", "a", "c"), ("some", "x", ("some", "y", ("some", "z", ("root", "z")))))
        self.assertEqual(plainly_named(formula), ("both", ("sub", "a", "c"), ("some", "b", ("some", "d", ("some", "e", ("root", "e"))))))
        self.assertEqual(plainly_named(("some", "x", ("sub", "a", "x"))), ("some", "b", ("sub", "a", "b")))

    def test_side_by_side(self):
        formula = ("both", ("some", "x", ("root", "x")), ("not", ("all", "y", ("some", "x", ("sub", "x", "y")))))
        self.assertEqual(plainly_named(formula), (
            "both", ("some", "a", ("root", "a")), ("not", ("all", "a", ("some", "b", ("sub", "b", "a"))))))

    def test_binders_of_none_and_names_bound_anew(self):
        self.assertEqual(plainly_named(("some", "x", ("some", "x", ("root", "x")))), ("some", "a", ("some", "b", ("root", "b"))))
        self.assertEqual(plainly_named(("some", "x", ("some", "y", ("root", "x")))), ("some", "a", ("some", "b", ("root", "a"))))
        self.assertEqual(plainly_named(("some", "a", ("root", "x"))), ("some", "a", ("root", "x")))

    def test_99_binders(self):
        deep = ("sub", "a", "ac")
        for _ in range(99):
            deep = ("some", "x", deep)
        names, told = [], plainly_named(deep)
        while told[0] == "some":
            names.append(told[1])
            told = told[2]
        letters = "abcdefghijklmnopqrstuvwxyz"
        wanted = list(letters[1:]) + [one + other for one in "abc" for other in letters]
        self.assertEqual(names, [name for name in wanted if name != "ac"][:99])
        self.assertEqual(told, ("sub", "a", "ac"))

    def test_by_the_words(self):
        for formula, _ in formulas_by_chance(343, 400, 9, ("a", "b", "c")):
            names = [name for name in "abcdefghijklmnopqrstuvwxyz" if name not in free_names(formula)]
            told = plainly_named(formula)
            self.assertTrue(is_formula(told))
            self.assertEqual(told, plainly_named_by_the_words(formula, names))
            self.assertEqual(numbered(told), numbered(formula))
            self.assertEqual(plainly_named(told), told)


class Mirrored(Case):
    def test_by_hand(self):
        formula = ("some", "a", ("both", ("left", "a", "b"), ("not", ("either", ("right", "b", "a"), ("all", "c", ("sub", "c", "c"))))))
        told = ("some", "a", ("both", ("right", "a", "b"), ("not", ("either", ("left", "b", "a"), ("all", "c", ("sub", "c", "c"))))))
        self.assertEqual(mirrored(formula=formula), told)
        self.assertEqual(mirrored(told), formula)
        self.assertEqual(mirrored(("root", "x")), ("root", "x"))

    def test_on_exchanged_woods(self):
        chance = dice(344)
        for _ in range(200):
            formula = some_plain(chance, chance.randint(1, 3), NAMES)
            wood = wood_for(chance, free_names(formula))
            self.assertIs(true_on(mirrored(formula), exchanged(wood)), true_on(formula, wood))
        for formula, chance in formulas_by_chance(345, 80, 6):
            wood = wood_for(chance, free_names(formula), 3)
            self.assertEqual(told_or_most(means, mirrored(formula), exchanged(wood)), told_or_most(means, formula, wood))

    def test_sentences(self):
        met = 0
        for formula, chance in formulas_by_chance(346, 100, 5):
            for name in free_names(formula):
                formula = (chance.choice(("some", "all")), name, formula)
            self.assertTrue(is_sentence(formula))
            told = told_or_most(truth, formula)
            if not isinstance(told, int):
                met += 1
                self.assertEqual(truth(mirrored(formula))[0], told[0])
        self.assertGreater(met, 60)


class Errors(Case):
    def test_errors(self):
        for thing in junk_but() + [nots(101), ("sub", "x", "all"), ("both", ("sub", "a", "b"), ("sub", "c", "d")), *LONG]:
            self.fails(BadFormula, renamed, thing, None)
            self.fails(BadFormula, plainly_named, thing)
            self.fails(BadFormula, mirrored, thing)
            self.fails(BadFormula, is_twin, thing, F)
            self.fails(BadFormula, is_twin, F, thing)
