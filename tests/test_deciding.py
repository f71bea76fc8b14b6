"""Points [52], [55], [56], [57], [58], with the FACTs of [69] and [80] that say for what no TooMany is raised."""

import itertools

from allboughs.building import contrary
from allboughs.compiling import machine_of
from allboughs.deciding import follows, machines_parted, means, parted, shown, truth
from allboughs.errors import BadFormula, BadMachine, BadScope, BadSentence, BadWood, NoName, OtherScope
from allboughs.formulas import free_names, is_formula
from allboughs.grafting import bare, joined, without
from allboughs.playing import game_of, lets_by
from allboughs.woods import is_wood
from tests.meanings import EMPTY_SCOPE, all_woods, left_over, some_atom, some_formula, some_plain, true_on, wood_for
from tests.plans import good_plan
from tests.support import Alike, Case, alike, dice, junk_but, machine_lets, some_machine, some_wood_of
from tests.test_compiling import TOO_MANY, TOO_MANY_CHOICES, told_or_most
from tests.test_formulas import ONES, TWOS, boths, nots
from tests.test_grafting import ring
from tests.test_machines import line

NAMES = ("x", "y", "z")
F, G = ("sub", "x", "y"), ("root", "x")
WOODS = ("wood", ("x", "y"), ((("x",), 1, 1), ((), 1, 1)))
SMALL = all_woods(("m",), 1) + all_woods(("m",), 2)

TRUE = (
    ("all", "a", ("some", "b", ("left", "a", "b"))), ("some", "a", ("root", "a")), ("not", ("all", "a", ("root", "a"))),
    ("some", "a", ("all", "b", ("sub", "a", "b"))), ("some", "a", ("all", "b", ("sub", "b", "a"))), ("all", "a", ("sub", "a", "a")),
    ("all", "a", ("either", ("not", ("root", "a")), ("not", ("left", "a", "a")))), ("some", "a", ("left", "a", "a")),
    ("all", "a", ("all", "b", ("either", ("not", ("left", "a", "b")), ("either", ("not", ("right", "a", "b")), ("sub", "a", "b"))))),
    ("some", "x", ("both", ("road", "x"), ("not", ("one", "x")))), ("all", "x", ("either", ("not", ("road", "x")), ("thread", "x"))),
    ("all", "a", ("some", "a", ("root", "a"))),
)
FALSE = (
    ("all", "a", ("root", "a")), ("some", "a", ("both", ("root", "a"), ("left", "a", "a"))), ("all", "a", ("all", "b", ("sub", "a", "b"))),
    ("all", "a", ("some", "b", ("left", "b", "a"))), ("some", "a", ("all", "b", ("left", "a", "b"))), ("some", "a", ("not", ("sub", "a", "a"))),
    ("some", "a", ("all", "a", ("root", "a"))), ("some", "x", ("both", ("finite", "x"), ("again", "x"))),
    ("all", "a", ("not", ("left", "a", "a"))),
)


def marked_by(wood, marks, name):
    """The wood with the marks of another wood, of one name, told by this name."""
    renamed = ("wood", (name,), tuple((tuple(name for _ in letter), left, right) for letter, left, right in marks[2]))
    return joined(wood, renamed)


class Means(Case):
    def test_without_binders(self):
        chance = dice(250)
        seen = [0, 0]
        for _ in range(400):
            formula = some_plain(chance, chance.randint(1, 4), NAMES)
            wood = wood_for(chance, NAMES)
            fine = true_on(formula, wood)
            seen[fine] += 1
            self.assertIs(means(formula=formula, wood=wood), fine)
            self.assertIs(means(formula, left_over(wood, free_names(formula))), fine)
        self.assertGreater(min(seen), 100)

    def test_further_names_mean_nothing(self):
        self.assertIs(means(("some", "x", ("root", "x")), ("wood", ("x",), (((), 0, 0),))), True)
        self.assertIs(means(("all", "x", ("root", "x")), ("wood", ("x",), ((("x",), 1, 1), ((), 1, 1)))), False)
        self.assertIs(means(G, ("wood", ("a", "x", "z"), ((("a", "x"), 1, 1), (("a", "z"), 0, 1)))), False)
        self.assertIs(means(G, ("wood", ("a", "x", "z"), ((("a", "x"), 1, 1), (("a", "z"), 1, 1)))), True)

    def test_one_name_twice(self):
        for atom, fine, other in ((("sub", "x", "x"), True, True), (("left", "x", "x"), True, False), (("right", "x", "x"), True, False)):
            self.assertIs(means(atom, ("wood", ("x",), (((), 0, 0),))), fine)
            self.assertIs(means(atom, ("wood", ("x",), ((("x",), 0, 0),))), other)

    def test_binders_against_woods_of_few_nodes(self):
        chance = dice(251)
        seen = [0, 0]
        for _ in range(110):
            word, name = chance.choice(("some", "all")), chance.choice(NAMES)
            part = some_formula(chance, chance.randint(1, 5), NAMES)
            formula = (word, name, part)
            if not is_formula(formula) or name not in free_names(part):
                continue
            wood = wood_for(chance, free_names(formula), 2)
            fine = told_or_most(means, formula, wood)
            if fine not in (True, False) or isinstance(told_or_most(machine_of, part), int):
                continue
            seen[fine] += 1
            for marks in SMALL:
                inner = means(part, marked_by(wood, marks, name))
                self.assertFalse(fine and word == "all" and not inner, (formula, wood, marks))
                self.assertFalse(not fine and word == "some" and inner, (formula, wood, marks))
        self.assertGreater(min(seen), 20)

    def test_there_is_no_limit_of_standings(self):
        formula = ("both", boths(48, ("left", "x", "x")), ("sub", "x", "y"))
        y_at_the_end = tuple((("y",) if at == 399 else (), (at + 1) % 400, at) for at in range(400))
        wood = ("wood", ("y",), y_at_the_end)
        self.many(20000, game_of, machine_of(formula), bare(wood, ("x",)))
        self.assertIs(means(formula, bare(wood, ("x",))), True)
        spoiled = ("wood", ("x", "y"), (*bare(wood, ("x",))[2][:399], (("x", "y"), 0, 399)))
        self.assertIs(means(formula, spoiled), False)

    def test_errors(self):
        for thing in junk_but() + [nots(101), ("sub", "x", "all")]:
            self.fails(BadFormula, means, thing, None)
        for thing in junk_but():
            self.fails(BadWood, means, F, thing)
        self.assertEqual(self.fails(NoName, means, ("sub", "y", "x"), EMPTY_SCOPE).name, "x")
        self.assertEqual(self.fails(NoName, means, ("sub", "y", "x"), ("wood", ("x", "z"), (((), 0, 0),))).name, "y")
        for most, formula in TOO_MANY:
            scope = free_names(formula)
            self.many(most, means, formula, ("wood", scope, (((), 0, 0),)))
            if scope:
                self.assertEqual(self.fails(NoName, means, formula, EMPTY_SCOPE).name, scope[0])


class Shown(Case):
    def held(self, formula, wood, told):
        """Look at what shown tells for a formula that it takes."""
        word, name, part = formula
        self.assertIs(told is None, means(formula, wood) is (word == "all"))
        if told is not None:
            self.assertTrue(is_wood(told))
            self.assertEqual(told[1], free_names(part))
            self.assertIs(means(part, told), word == "some")
            scope = free_names(formula)
            self.assertTrue(alike(left_over(told, scope), left_over(wood, scope)))

    def test_by_hand(self):
        told = shown(formula=("some", "x", ("root", "x")), wood=EMPTY_SCOPE)
        self.assertTrue(alike(told, ("wood", ("x",), ((("x",), 1, 1), ((), 1, 1)))))
        self.assertIsNone(shown(("all", "x", ("sub", "x", "x")), EMPTY_SCOPE))
        self.assertIsNone(shown(("some", "x", ("both", ("root", "x"), ("left", "x", "x"))), EMPTY_SCOPE))
        wood = ("wood", ("x", "y"), (((), 1, 1), (("x", "y"), 0, 0)))
        told = shown(("some", "x", ("left", "y", "x")), wood)
        self.assertTrue(alike(told, ("wood", ("x", "y"), (((), 1, 1), (("y",), 2, 0), (("x",), 1, 1)))))

    def test_plain_parts(self):
        chance = dice(252)
        seen = set()
        for _ in range(250):
            word = chance.choice(("some", "all"))
            part = some_plain(chance, chance.randint(1, 3), NAMES)
            name = chance.choice(free_names(part))
            formula = (word, name, part)
            wood = wood_for(chance, NAMES)
            told = shown(formula, wood)
            seen.add((word, told is None))
            self.held(formula, wood, told)
            if told is not None:
                self.assertIs(true_on(part, told), word == "some")
        self.assertEqual(len(seen), 4)

    def test_parts_with_binders(self):
        chance = dice(253)
        for _ in range(80):
            part = some_formula(chance, chance.randint(2, 6), NAMES)
            if is_formula(part) and free_names(part):
                formula = (chance.choice(("some", "all")), chance.choice(free_names(part)), part)
                wood = wood_for(chance, free_names(formula), 3)
                told = told_or_most(shown, formula, wood)
                if not isinstance(told, int) and not any(isinstance(told_or_most(machine_of, f), int) for f in (part, formula)):
                    self.held(formula, wood, told)

    def test_shorts(self):
        for short in [(word, "x") for word in ONES] + [(word, "x", "y") for word in TWOS]:
            wood = ("wood", ("y",), ((("y",), 1, 1), ((), 1, 0)))
            for word in ("some", "all"):
                self.held((word, "x", short), wood, shown((word, "x", short), wood))

    def test_errors(self):
        things = junk_but() + [
            F, G, ("not", ("some", "x", G)), ("some", "x", ("root", "y")), ("all", "x", ("some", "x", G)), ("road", "x"),
            ("both", ("some", "x", G), G), ("some", "x", ("sub", "x", "all")), nots(101)]
        for thing in things:
            self.fails(BadFormula, shown, thing, None)
        for thing in junk_but():
            self.fails(BadWood, shown, ("some", "x", F), thing)
        self.assertEqual(self.fails(NoName, shown, ("some", "x", F), EMPTY_SCOPE).name, "y")
        self.assertEqual(self.fails(NoName, shown, ("all", "y", F), ("wood", ("y",), (((), 0, 0),))).name, "x")
        self.many(2000, shown, ("some", "z", TOO_MANY_CHOICES), ("wood", ("x", "y"), (((), 0, 0),)))
        self.assertEqual(self.fails(NoName, shown, ("some", "z", TOO_MANY_CHOICES), EMPTY_SCOPE).name, "y")


class Truth(Case):
    def held(self, sentence):
        """Look at what truth tells; told is whether the sentence is true."""
        word, plan = truth(sentence=sentence)
        self.assertIn(word, ("true", "false"))
        game = game_of(machine_of(sentence), EMPTY_SCOPE)
        self.assertTrue(good_plan(game, plan))
        self.assertEqual(plan[1], 0 if word == "true" else 1)
        self.assertEqual(plan[2][0][0], 0)
        return word == "true"

    def test_by_hand(self):
        for sentence in TRUE:
            self.assertIs(self.held(sentence), True, sentence)
        for sentence in FALSE:
            self.assertIs(self.held(sentence), False, sentence)

    def test_the_contrary_has_the_other_word(self):
        for sentence in TRUE + FALSE:
            self.assertIs(self.held(("not", sentence)), sentence in FALSE)
        chance = dice(254)
        met = 0
        for _ in range(150):
            sentence = some_formula(chance, chance.randint(2, 7), NAMES)
            if is_formula(sentence):
                for name in free_names(sentence):
                    sentence = (chance.choice(("some", "all")), name, sentence)
                if not isinstance(told_or_most(truth, sentence), int):
                    met += 1
                    self.assertIs(self.held(sentence), not self.held(("not", sentence)))
                    self.assertIs(means(sentence, EMPTY_SCOPE), self.held(sentence))
        self.assertGreater(met, 80)

    def test_chains(self):
        chance = dice(255)
        for _ in range(80):
            one, other = some_chain(chance), some_chain(chance)
            self.held(one)
            self.held(("not", one))
            if is_formula(("either", ("not", one), other)):
                self.held(("both", one, other))
                self.held(("either", ("not", one), other))

    def test_chains_by_hand(self):
        """The root's left child's right child: told by one kind of binders or the other, the same is said of it."""
        def chain(words, end):
            steps = (("root", "a"), ("left", "a", "b"), ("right", "b", "a"))
            told = end
            for word, told_by in list(zip(words, steps))[::-1]:
                part = ("both", told_by, told) if word == "some" else ("either", ("not", told_by), told)
                told = (word, told_by[-1], part)
            return told

        for words in itertools.product(("some", "all"), repeat=3):
            self.assertIs(self.held(chain(words, ("right", "b", "a"))), True)
            self.assertIs(self.held(chain(words, ("left", "b", "a"))), False)
            self.assertIs(self.held(chain(words, ("sub", "a", "b"))), False)

    def test_induction(self):
        """What has the root and both children of each of its places is everything."""
        tellings = (("root", "b"), ("left", "a", "b"), ("right", "a", "b"))
        for many in (1, 2, 3):
            for row in itertools.product(tellings, repeat=many):
                part = ("some", "b", ("both", row[0], ("sub", "b", "a")))
                for telling in row[1:]:
                    part = ("both", part, ("some", "b", ("both", telling, ("sub", "b", "a"))))
                sentence = ("all", "a", ("either", ("not", part), ("all", "b", ("sub", "b", "a"))))
                self.assertIs(self.held(sentence), set(row) == set(tellings))
                self.assertIs(self.held(("not", sentence)), set(row) != set(tellings))

    def test_errors(self):
        for thing in junk_but() + [F, G, nots(101), ("some", "x", F), ("road", "x"), ("all", "x", ("same", "x", "y"))]:
            self.fails(BadSentence, truth, thing)
        inner = TOO_MANY[0][1]
        self.assertEqual(free_names(inner), ())
        self.many(400, truth, inner)
        self.many(2000, truth, ("all", "z", ("some", "x", TOO_MANY[1][1])))


def some_chain(chance):
    """A chain of [80]."""
    names = ["a", "b"]
    steps = [("root", "a")]
    for _ in range(chance.randint(1, 6)):
        steps.append((chance.choice(("left", "right")), names[0], names[1]))
        names.reverse()
    told = some_plain(chance, chance.randint(1, 2), ("a", "b"))
    for step in steps[::-1]:
        if chance.random() < 0.5:
            told = ("some", step[-1], ("both", step, told))
        else:
            told = ("all", step[-1], ("either", ("not", step), told))
    return told


class Follows(Case):
    def held(self, one, other, told, woods):
        """Look at what follows tells."""
        scope = tuple(sorted(set(free_names(one) + free_names(other))))
        if told is None:
            for wood in woods:
                self.assertFalse(means(one, wood) and not means(other, wood))
        else:
            self.assertTrue(is_wood(told))
            self.assertEqual(told[1], scope)
            self.assertTrue(means(one, told))
            self.assertFalse(means(other, told))

    def test_by_hand(self):
        self.assertIsNone(follows(one=("both", F, G), other=G))
        self.assertIsNone(follows(("left", "x", "x"), F))
        self.assertIsNotNone(follows(F, G))
        self.assertIsNone(follows(("root", "x"), ("one", "x")))
        self.assertIsNotNone(follows(("one", "x"), ("root", "x")))
        self.assertIsNone(follows(("some", "a", ("root", "a")), ("all", "b", ("sub", "b", "b"))))
        told = follows(("some", "a", ("root", "a")), ("all", "a", ("root", "a")))
        self.assertTrue(alike(told, EMPTY_SCOPE))

    def test_two_atoms(self):
        chance = dice(256)
        seen = [0, 0]
        for _ in range(250):
            one, other = [chance.choice((atom, ("not", atom))) for atom in (some_atom(chance, NAMES), some_atom(chance, NAMES))]
            woods = [wood_for(chance, NAMES, 3) for _ in range(8)]
            told = follows(one, other)
            seen[told is None] += 1
            self.held(one, other, told, woods)
            apart = parted(one, other)
            self.assertIs(apart is None, told is None and follows(other, one) is None)
            if apart is not None:
                self.assertIsNot(means(one, apart), means(other, apart))
                self.assertEqual(apart[1], tuple(sorted(set(free_names(one) + free_names(other)))))
        self.assertGreater(min(seen), 15)

    def test_all_pairs_of_atoms_raise_no_too_many(self):
        atoms = [(word, one, other) for word in ("sub", "left", "right") for one in "xyz" for other in "xyz"] + [("root", "x"), ("root", "z")]
        atoms += [("not", atom) for atom in atoms]
        for one, other in itertools.product(atoms, repeat=2):
            self.assertIs(follows(one, other) is None and follows(other, one) is None, parted(one, other) is None)

    def test_others(self):
        chance = dice(257)
        seen = {}
        for _ in range(150):
            one = some_formula(chance, chance.randint(2, 5), ("x", "y"))
            other = some_formula(chance, chance.randint(2, 5), ("x", "y"))
            told = told_or_most(follows, one, other)
            if not isinstance(told, int):
                seen[told is None] = seen.get(told is None, 0) + 1
                self.held(one, other, told, [wood_for(chance, ("x", "y"), 3) for _ in range(6)])
        self.assertGreater(min(seen[True], seen[False]), 30)

    def test_two_shorts(self):
        shorts = [(word, name) for word in ONES for name in "xy"] + [(word, "x", "y") for word in TWOS] + [(word, "y", "x") for word in TWOS]
        chance = dice(258)
        for one, other in itertools.product(shorts, repeat=2):
            told = follows(one, other)
            if chance.random() < 0.2:
                self.held(one, other, told, [wood_for(chance, ("x", "y"), 4) for _ in range(3)])
                sentence = ("either", ("not", one), other)
                for name in free_names(sentence):
                    sentence = ("all", name, sentence)
                self.assertEqual(truth(sentence)[0], "true" if told is None else "false")

    def test_between(self):
        """If other follows from one, what stands between is one with its own names bound."""
        chance = dice(259)
        met = 0
        for _ in range(400):
            one, other = some_plain(chance, 2, ("x", "y")), some_plain(chance, 1, ("y", "z"))
            if told_or_most(follows, one, other) is None and set(free_names(one)) - set(free_names(other)):
                middle = one
                for name in free_names(one):
                    if name not in free_names(other):
                        middle = ("some", name, middle)
                met += 1
                self.assertLessEqual(set(free_names(middle)), set(free_names(one)) & set(free_names(other)))
                self.assertIsNone(follows(one, middle))
                self.assertIsNone(follows(middle, other))
        self.assertGreater(met, 10)

    def test_errors(self):
        for function in (follows, parted):
            for thing in junk_but() + [nots(101), ("sub", "x", "all")]:
                self.fails(BadFormula, function, thing, None)
                self.fails(BadFormula, function, thing, F)
                self.fails(BadFormula, function, F, thing)
            self.fails(BadScope, function, F, ("sub", "a", "b"))
            self.fails(BadScope, function, ("both", F, ("root", "z")), ("root", "a"))
            self.fails(BadScope, function, TOO_MANY_CHOICES, ("sub", "a", "b"))
            self.many(400, function, TOO_MANY[0][1], F)
            self.many(2000, function, F, TOO_MANY[1][1])
            self.many(2000, function, TOO_MANY[1][1], TOO_MANY[0][1])


class Parted(Case):
    def test_by_hand(self):
        self.assertIsNone(parted(one=F, other=("not", ("not", F))))
        self.assertIsNone(parted(("bare", "x"), ("left", "x", "x")))
        self.assertIsNone(parted(("same", "x", "y"), ("both", F, ("sub", "y", "x"))))
        self.assertIsNone(parted(("some", "a", ("root", "a")), ("some", "b", ("root", "b"))))
        told = parted(("sub", "x", "y"), ("either", ("sub", "x", "y"), ("root", "x")))
        self.assertIsNot(means(F, told), means(("either", F, G), told))
        self.assertIsNotNone(parted(("both", F, G), F))

    def test_by_chance(self):
        chance = dice(260)
        seen = {True: 0, False: 0}
        for _ in range(120):
            one = some_formula(chance, chance.randint(2, 5), ("x", "y"))
            other = chance.choice((some_formula(chance, chance.randint(2, 5), ("x", "y")), ("not", ("both", ("not", one), ("not", one)))))
            told = told_or_most(parted, one, other)
            if isinstance(told, int):
                continue
            seen[told is None] += 1
            if told is None:
                for _ in range(5):
                    wood = wood_for(chance, ("x", "y"), 3)
                    self.assertIs(means(one, wood), means(other, wood))
            else:
                self.assertIsNot(means(one, told), means(other, told))
        self.assertGreater(min(seen.values()), 30)


class MachinesParted(Case):
    def test_by_chance(self):
        chance = dice(261)
        seen = [0, 0]
        for _ in range(150):
            scope = chance.choice(((), ("x",)))
            one = some_machine(chance, scope, chance.randint(1, 3), 3)
            other = chance.choice((some_machine(chance, scope, chance.randint(1, 2), 3), contrary(contrary(one))))
            told = told_or_most(machines_parted, one, other)
            if isinstance(told, int):
                continue
            seen[told is None] += 1
            if told is None:
                for _ in range(5):
                    wood = some_wood_of(chance, scope, 3)
                    self.assertIs(machine_lets(one, wood), machine_lets(other, wood))
            else:
                self.assertTrue(is_wood(told))
                self.assertEqual(told[1], scope)
                self.assertIsNot(lets_by(one, told), lets_by(other, told))
        self.assertGreater(min(seen), 30)

    def test_by_hand(self):
        one = ("machine", (), ((0, (("yes",),)),))
        other = ("machine", (), ((0, (("go", 0, 0),)),))
        none = ("machine", (), ((1, (("go", 0, 0),)),))
        self.assertIsNone(machines_parted(one=one, other=other))
        self.assertTrue(alike(machines_parted(one, none), EMPTY_SCOPE))
        self.assertTrue(alike(machines_parted(none, other), EMPTY_SCOPE))

    def test_errors(self):
        one = ("machine", (), ((0, (("yes",),)),))
        for thing in junk_but():
            self.fails(BadMachine, machines_parted, thing, one)
            self.fails(BadMachine, machines_parted, one, thing)
        self.fails(OtherScope, machines_parted, line(30, [0] * 30), machine_of(G))
        high = ("machine", (), tuple([(at, (("either", ("go", 0, min(300, at + 1)), ("go", 1, max(0, at - 1))),)) for at in range(301)]))
        self.many(300, contrary, high)
        self.fails(OtherScope, machines_parted, machine_of(G), high)
        self.many(24, machines_parted, line(25, range(25)), one)
        self.many(24, machines_parted, one, line(25, [0] * 25))


class Judges(Case):
    def test_marks(self):
        told = marked_by(("wood", ("y",), ((("y",), 0, 0),)), ("wood", ("m",), ((("m",), 1, 1), ((), 1, 1))), "x")
        self.assertTrue(alike(told, ("wood", ("x", "y"), ((("x", "y"), 1, 1), (("y",), 1, 1)))))
        self.assertEqual(without(told, ("x",))[1], ("y",))
        self.assertEqual(len(ring(3)[2]), 3)
        self.assertFalse(is_formula((Alike(), "x")))
