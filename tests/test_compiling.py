"""Points [53] and [54], with what [69] says of shorts in formulas."""

import itertools

from allboughs.building import contrary, joining, meeting, widened
from allboughs.choices import as_machine, is_choices
from allboughs.chosen import chosen
from allboughs.compiling import choices_of, machine_of
from allboughs.errors import BadFormula, TooMany
from allboughs.formulas import free_names, is_formula
from allboughs.hiding import hidden
from allboughs.machines import is_machine
from allboughs.playing import lets_by
from allboughs.pruning import pruned
from allboughs.shorts import hand
from tests.meanings import some_atom, some_formula, some_plain, true_on, wood_for
from tests.support import Alike, Case, choices_let, dice, junk_but
from tests.test_formulas import ONES, TWOS, boths, nots

N = ("no",)
NAMES = ("x", "y", "z")
# Formulas for which TooMany is raised, with its number: by machine_of (and choices_of), and by choices_of alone.
TOO_MANY = (
    (400, ("all", "x", ("not", ("all", "y", ("some", "z", (
        "both", ("both", ("not", ("root", "y")), ("root", "z")), ("left", "z", "x"))))))),
    (2000, ("all", "y", ("both", ("not", ("all", "y", ("either", ("right", "y", "z"), ("right", "y", "x")))), ("root", "y")))),
)
TOO_MANY_CHOICES = ("either", ("all", "x", ("either", ("right", "y", "z"), ("right", "x", "y"))), ("left", "z", "z"))


def t(left, right):
    """Both goes."""
    return ("both", ("go", 0, left), ("go", 1, right))


# The conditions of each state of each atom for the letters (), x, y and both, or () and x.
ATOMS = {
    ("sub", "x", "y"): ((t(0, 0), N, t(0, 0), t(0, 0)),),
    ("sub", "y", "x"): ((t(0, 0), t(0, 0), N, t(0, 0)),),
    ("sub", "x", "x"): ((t(0, 0), t(0, 0)),),
    ("root", "x"): ((N, t(1, 1)), (t(1, 1), N)),
    ("left", "x", "y"): ((t(0, 0), t(1, 0), N, N), (N, N, t(0, 0), t(1, 0))),
    ("left", "y", "x"): ((t(0, 0), N, t(1, 0), N), (N, t(0, 0), N, t(1, 0))),
    ("left", "x", "x"): ((t(0, 0), N), (N, t(1, 0))),
    ("right", "x", "y"): ((t(0, 0), t(0, 1), N, N), (N, N, t(0, 0), t(0, 1))),
    ("right", "y", "x"): ((t(0, 0), N, t(0, 1), N), (N, t(0, 0), N, t(0, 1))),
    ("right", "x", "x"): ((t(0, 0), N), (N, t(0, 1))),
}


def machine_by_the_words(f):
    """What [53] says of machine_of, sentence by sentence."""
    if f[0] in ("both", "either"):
        parts = [widened(machine_by_the_words(part), free_names(f)) for part in f[1:]]
        return meeting(*parts) if f[0] == "both" else joining(*parts)
    if f[0] == "not" and f[1][0] == "not":
        return machine_by_the_words(f[1][1])
    if f[0] == "not" and f[1][0] == "all":
        return machine_by_the_words(("some", f[1][1], ("not", f[1][2])))
    if f[0] == "not":
        return contrary(machine_by_the_words(f[1]))
    if f[0] == "all":
        return contrary(machine_by_the_words(("some", f[1], ("not", f[2]))))
    if f[0] == "some" and f[1] not in free_names(f[2]):
        return machine_by_the_words(f[2])
    if f[0] == "some":
        return as_machine(choices_by_the_words(f))
    return machine_of(f)


def choices_by_the_words(f):
    """What [53] says of choices_of, sentence by sentence."""
    if f[0] == "some" and f[1] in free_names(f[2]):
        return pruned(hidden(choices_by_the_words(f[2]), f[1]))
    if f[0] == "some":
        return choices_by_the_words(f[2])
    if f[0] == "not" and f[1][0] == "not":
        return choices_by_the_words(f[1][1])
    if f[0] == "not" and f[1][0] == "all":
        return choices_by_the_words(("some", f[1][1], ("not", f[1][2])))
    return pruned(chosen(machine_by_the_words(f)))


def told_or_most(function, *args):
    """What a function tells, or the number of its TooMany."""
    try:
        return function(*args)
    except TooMany as error:
        return error.most


class Atoms(Case):
    def test_by_hand(self):
        for atom, rows in ATOMS.items():
            scope = ("x",) if len(rows[0]) == 2 else ("x", "y")
            told = machine_of(formula=atom)
            self.assertEqual(told, ("machine", scope, tuple((0, row) for row in rows)))
            self.assertTrue(is_machine(told))
        self.assertEqual(machine_of(("sub", "b", "a"))[1], ("a", "b"))

    def test_shorts(self):
        for short in [(word, "x") for word in ONES] + [(word, "y", "x") for word in TWOS] + [("same", "x", "x")]:
            self.assertEqual(machine_of(short), hand(short))
            self.assertEqual(choices_of(short), pruned(chosen(hand(short))))

    def test_they_hold_on_woods(self):
        chance = dice(240)
        seen = {}
        for _ in range(1500):
            atom = some_atom(chance, NAMES)
            wood = wood_for(chance, set(atom[1:]))
            fine = true_on(atom, wood)
            self.assertIs(lets_by(machine_of(atom), wood), fine)
            seen[atom[0], fine] = seen.get((atom[0], fine), 0) + 1
        self.assertEqual(len(seen), 8)
        self.assertGreater(min(seen.values()), 5)


class Built(Case):
    def test_by_the_words(self):
        chance = dice(241)
        for _ in range(250):
            formula = some_formula(chance, chance.randint(2, 9), NAMES)
            if is_formula(formula):
                told = told_or_most(machine_of, formula)
                self.assertEqual(told, told_or_most(machine_by_the_words, formula), formula)
                self.assertEqual(told_or_most(choices_of, formula), told_or_most(choices_by_the_words, formula), formula)
                if not isinstance(told, int):
                    self.assertTrue(is_machine(told))
                    self.assertEqual(told[1], free_names(formula))

    def test_by_hand(self):
        f, g, h = ("root", "x"), ("left", "x", "y"), ("sub", "y", "z")
        wide = widened(machine_of(g), ("x", "y", "z")), widened(machine_of(h), ("x", "y", "z"))
        self.assertEqual(machine_of(("both", g, h)), meeting(*wide))
        self.assertEqual(machine_of(("either", g, h)), joining(*wide))
        self.assertEqual(machine_of(("not", g)), contrary(machine_of(g)))
        self.assertEqual(machine_of(("not", ("not", g))), machine_of(g))
        self.assertEqual(machine_of(("some", "z", g)), machine_of(g))
        self.assertEqual(machine_of(("some", "x", g)), as_machine(choices_of(("some", "x", g))))
        self.assertEqual(choices_of(("some", "x", g)), pruned(hidden(choices_of(g), "x")))
        self.assertEqual(machine_of(("all", "x", g)), contrary(machine_of(("some", "x", ("not", g)))))
        self.assertEqual(machine_of(("not", ("all", "x", g))), machine_of(("some", "x", ("not", g))))
        self.assertEqual(choices_of(("all", "x", g)), pruned(chosen(machine_of(("all", "x", g)))))
        self.assertEqual(choices_of(("both", f, g)), pruned(chosen(machine_of(("both", f, g)))))
        self.assertEqual(choices_of(("not", ("not", f))), choices_of(f))

    def test_choices_of_not_all_and_not_not(self):
        """They are those of what begins with some, not made from the machine, which would tell others."""
        for g in (
            ("both", ("not", ("both", ("right", "x", "x"), ("left", "y", "x"))), ("right", "x", "y")), ("either", ("root", "y"), ("sub", "x", "y")),
        ):
            some = ("some", "x", ("not", g))
            told = choices_of(some)
            self.assertNotEqual(told, pruned(chosen(machine_of(some))))
            for formula in (("not", ("all", "x", g)), ("not", ("not", some)), ("some", "z", some), ("not", ("not", ("not", ("all", "x", g))))):
                self.assertEqual(choices_of(formula), told)
                self.assertEqual(machine_of(formula), as_machine(told))

    def test_shorts_within(self):
        chance = dice(242)
        for _ in range(60):
            one = (chance.choice(ONES), chance.choice("xy"))
            other = (chance.choice(TWOS), "x", chance.choice("xy"))
            formula = chance.choice((("both", one, other), ("some", "x", ("either", one, ("not", other))), ("all", "y", other)))
            self.assertEqual(told_or_most(machine_of, formula), told_or_most(machine_by_the_words, formula))

    def test_bound_anew(self):
        inner = ("some", "x", ("root", "x"))
        self.assertEqual(free_names(("both", ("sub", "x", "y"), inner)), ("x", "y"))
        told = machine_of(("some", "x", ("both", ("root", "x"), inner)))
        self.assertEqual(told, machine_by_the_words(("some", "x", ("both", ("root", "x"), ("some", "y", ("root", "y"))))))

    def test_deep_ones(self):
        self.assertEqual(machine_of(nots(99)), machine_of(("sub", "x", "y")))
        deep = ("sub", "x", "y")
        for at in range(99):
            deep = (("some", "all")[at % 2], ("x", "y", "z")[at % 3], deep)
        self.assertEqual(machine_of(deep)[1], ())
        self.assertTrue(is_choices(choices_of(deep)))
        self.assertTrue(is_machine(machine_of(boths(50))))


class Hearts(Case):
    def test_without_binders(self):
        chance = dice(243)
        seen = [0, 0]
        for _ in range(400):
            formula = some_plain(chance, chance.randint(1, 4), NAMES)
            wood = wood_for(chance, free_names(formula))
            fine = true_on(formula, wood)
            seen[fine] += 1
            self.assertIs(lets_by(machine_of(formula), wood), fine, (formula, wood))
        self.assertGreater(min(seen), 100)

    def test_choices_without_binders(self):
        chance = dice(244)
        seen = [0, 0]
        for _ in range(120):
            formula = some_plain(chance, chance.randint(1, 3), ("x", "y"))
            told = told_or_most(choices_of, formula)
            if not isinstance(told, int) and len(told[2]) < 12:
                wood = wood_for(chance, free_names(formula), 3)
                fine = true_on(formula, wood)
                seen[fine] += 1
                self.assertIs(choices_let(told, wood), fine)
        self.assertGreater(min(seen), 20)

    def test_choices_and_machine(self):
        chance = dice(245)
        for _ in range(60):
            formula = some_formula(chance, chance.randint(3, 7), NAMES)
            if is_formula(formula):
                machine, choices = told_or_most(machine_of, formula), told_or_most(choices_of, formula)
                if not isinstance(machine, int) and not isinstance(choices, int) and len(choices[2]) < 10:
                    for _ in range(3):
                        wood = wood_for(chance, machine[1], 3)
                        self.assertIs(choices_let(choices, wood), lets_by(machine, wood))


class TooManyOnTheWay(Case):
    def test_none_without_some_and_all(self):
        chance = dice(246)
        for _ in range(60):
            formula = some_plain(chance, chance.randint(4, 12), NAMES)
            self.assertTrue(is_machine(machine_of(formula)))

    def test_none_for_rows_of_one_kind(self):
        chance = dice(247)
        for _ in range(250):
            formulas = []
            for _ in range(chance.randint(1, 3)):
                formula = some_plain(chance, chance.randint(1, 3), NAMES)
                word = chance.choice(("some", "all"))
                for name in chance.sample(NAMES, chance.randint(0, 3)):
                    formula = (word, name, formula)
                formulas.append(formula)
                if word == "some":
                    self.assertTrue(is_choices(choices_of(formula)))
            told = formulas[0]
            for formula in formulas[1:]:
                told = (chance.choice(("both", "either")), told, chance.choice((formula, ("not", formula))))
            self.assertTrue(is_machine(machine_of(told)), told)

    def test_none_for_two_kinds_before_one_atom(self):
        atoms = [(word, one, other) for word in ("sub", "left", "right") for one in NAMES for other in NAMES]
        for atom in atoms + [("root", "x")]:
            for names in itertools.permutations(NAMES, 2):
                for words in (("some", "all"), ("all", "some")):
                    for formula in (atom, ("not", atom)):
                        told = (words[0], names[0], (words[1], names[1], formula))
                        self.assertTrue(is_machine(machine_of(told)))
                        self.assertTrue(is_machine(machine_of(("not", told))))

    def test_too_many(self):
        for most, formula in TOO_MANY:
            self.many(most, machine_of, formula)
            self.many(most, choices_of, formula)
            self.many(most, machine_of, ("both", ("root", "x"), formula))
            self.many(most, machine_of, ("not", formula))
            self.assertEqual(told_or_most(machine_by_the_words, formula), most)
        self.assertTrue(is_machine(machine_of(TOO_MANY_CHOICES)))
        self.many(2000, choices_of, TOO_MANY_CHOICES)
        self.many(2000, machine_of, ("some", "z", TOO_MANY_CHOICES))
        self.many(400, machine_of, ("both", TOO_MANY[0][1], TOO_MANY[1][1]))
        self.many(2000, machine_of, ("both", TOO_MANY[1][1], TOO_MANY[0][1]))


class Errors(Case):
    def test_errors(self):
        things = junk_but() + [
            nots(101), ("sub", "x", "root"), ("both", ("sub", "a", "b"), ("sub", "c", "d")), ("bare", "x", "y"), (Alike(), "x"),
            boths(51)]
        for thing in things:
            self.fails(BadFormula, machine_of, thing)
            self.fails(BadFormula, choices_of, thing)
