"""Points [1], [3], [4] and [180]: what is promised over the whole program; and the FACTs of where no TooMany is raised."""

import copy
import time

from allboughs import errors
from allboughs.chosen import chosen
from allboughs.compiling import choices_of, machine_of
from allboughs.deciding import follows, means, parted, truth
from allboughs.desk import Desk
from allboughs.emptying import some_wood
from allboughs.errors import TooMany
from allboughs.forms import blocks, front, inward, pushed
from allboughs.formulas import free_names, is_formula, is_sentence, size_of
from allboughs.guides import guide, refusal
from allboughs.makers import settled
from allboughs.naming import is_twin, mirrored, plainly_named
from allboughs.papers import is_answer, paper_of
from allboughs.playing import lets_by, verdict
from allboughs.plainroads import pointed
from allboughs.pointing import machine_of_points
from allboughs.roadmachines import machine_of_roads
from allboughs.roads import is_roads
from allboughs.sameness import is_sameness, sameness
from allboughs.shorts import hand, meant
from allboughs.texts import formula_of, text_of
from allboughs.wishing import wood_for
from allboughs.woods import parting
from allboughs.worths import worths
from tests import test_interface
from tests.makings import some_wish
from tests.meanings import some_formula, some_plain, wood_for as drawn_wood
from tests.pointlots import some_points, some_saying
from tests.support import Case, dice
from tests.test_compiling import told_or_most
from tests.test_spelling import shorts

ONE = ("wood", (), (((), 0, 0),))
TRUE, FALSE = ("some", "a", ("root", "a")), ("all", "a", ("root", "a"))
OTHER = {"true": "false", "false": "true"}


def drawn_sentence(chance, nodes=6):
    """A sentence for which there is a machine."""
    while True:
        formula = some_formula(chance, chance.randint(1, nodes), ("x", "y", "z"))
        if is_formula(formula):
            for name in free_names(formula):
                formula = (chance.choice(("some", "all")), name, formula)
            if not isinstance(told_or_most(machine_of, formula), int):
                return formula


class Sentences(Case):
    def test_all_ways_agree(self):
        chance = dice(670)
        seen = {"true": 0, "false": 0}
        for _ in range(120):
            sentence = drawn_sentence(chance)
            word, plan = truth(sentence)
            seen[word] += 1
            answer = (word, plan)
            self.assertTrue(is_sentence(sentence))
            self.assertTrue(is_answer(sentence, answer))
            self.assertFalse(is_answer(sentence, (OTHER[word], plan)))
            paper = paper_of(sentence, ONE)
            self.assertEqual({"yes": "true", "no": "false"}[paper[0]], word)
            self.assertTrue(is_answer(sentence, (word, paper[1])))
            self.assertEqual(verdict(machine_of(sentence), ONE)[0], paper[0])
            self.assertIs(lets_by(machine_of(sentence), ONE), word == "true")
            self.assertIs(means(sentence, ONE), word == "true")
            for wood in (ONE, drawn_wood(chance, ("x",)), drawn_wood(chance, ("x", "y"))):
                self.assertIs(means(sentence, wood), word == "true")
            self.assertEqual(truth(("not", sentence))[0], OTHER[word])
            for known, fine in ((TRUE, "true"), (FALSE, "false")):
                told = told_or_most(sameness, sentence, known)
                if not isinstance(told, int):
                    self.assertIs(told[0] == "same", word == fine)
                    self.assertTrue(is_sameness(sentence, known, told))
        self.assertGreater(min(seen.values()), 30)

    def test_forms_keep_the_word(self):
        chance = dice(671)
        for _ in range(150):
            sentence = drawn_sentence(chance)
            word = truth(sentence)[0]
            self.assertEqual(formula_of(text_of(sentence)), sentence)
            self.assertTrue(is_twin(sentence, plainly_named(sentence)))
            forms = [plainly_named(sentence), pushed(sentence), inward(sentence), mirrored(sentence), mirrored(pushed(sentence))]
            try:
                forms.append(front(sentence))
            except TooMany:
                pass
            for form in forms:
                told = told_or_most(truth, form)
                if not isinstance(told, int):
                    self.assertEqual(told[0], word, (sentence, form))
            desk = Desk()
            self.assertEqual(desk.say("let f " + text_of(sentence)), "kept")
            self.assertEqual(desk.say("truth f"), word)

    def test_blocks_of_front(self):
        chance = dice(672)
        met = 0
        while met < 40:
            formula = some_formula(chance, chance.randint(1, 6), ("x", "y"))
            if not is_formula(formula):
                continue
            try:
                told = front(formula)
            except TooMany:
                continue
            met += 1
            rows, part = [], told
            while part[0] in ("some", "all"):
                if not rows or rows[-1] != part[0]:
                    rows.append(part[0])
                part = part[2]
            self.assertEqual(len(rows), min(blocks(formula)))

    def test_sets_that_no_wood_tells(self):
        """What holds on all woods of a machine holds for all sets: so a formula and its contrary share no tree."""
        chance = dice(673)
        for _ in range(60):
            formula = some_plain(chance, chance.randint(1, 2), ("x", "y"))
            self.assertIsNone(follows(formula, formula))
            wood = follows(formula, ("not", formula))
            choices = told_or_most(choices_of, formula)
            if not isinstance(choices, int):
                self.assertIs(wood is None, some_wood(choices) is None)
            if wood is not None:
                self.assertTrue(means(formula, wood))
                self.assertIsNotNone(guide(choices_of(formula), wood))
                self.assertIsNone(refusal(choices_of(formula), wood))


class NoTooMany(Case):
    def test_machines_of_formulas(self):
        """[53]: rows of one kind in front of three atoms, joined; some before all, all before some, before one atom."""
        chance = dice(674)
        for _ in range(120):
            rows = []
            for _ in range(chance.randint(1, 2)):
                formula = some_plain(chance, chance.randint(1, 3), ("x", "y", "z"))
                word = chance.choice(("some", "all"))
                for name in chance.sample(("x", "y", "z"), chance.randint(1, 3)):
                    formula = (word, name, formula)
                rows.append(formula)
                if word == "some":
                    choices_of(formula)
            machine_of(rows[0] if len(rows) == 1 else (chance.choice(("both", "either")), *rows))
            atom = some_plain(chance, 1, ("x", "y"))
            names = chance.sample(("x", "y"), 2)
            words = chance.choice((("some", "all"), ("all", "some")))
            machine_of((words[0], names[0], (words[1], names[1], atom)))

    def test_two_atoms(self):
        """[58]: follows and parted of two atoms, each with or without not."""
        chance = dice(675)
        for _ in range(250):
            one, other = [some_plain(chance, 1, ("x", "y", "z")[:chance.randint(1, 3)]) for _ in range(2)]
            if len({*free_names(one), *free_names(other)}) > 3:
                continue
            wood = follows(one, other)
            if wood is not None:
                self.assertTrue(means(one, wood) and not means(other, wood))
            self.assertIs(parted(one, other) is None, wood is None and follows(other, one) is None)

    def test_shorts(self):
        """[69]: each short is told by a machine, by hand, by points, by choices."""
        chance = dice(676)
        for short in shorts(("x", "y")):
            points = machine_of_points(pointed(short))
            wood = drawn_wood(chance, set(short[1:]))
            for told in (lets_by(hand(short), wood), lets_by(points, wood), means(short, wood)):
                self.assertIs(told, meant(short, wood))
            chosen(points)
            self.assertIs(some_wood(choices_of(short)) is None, wood_for(pointed(short)) is None)


class TheWhole(Case):
    def test_errors_stand_directly_below_the_one(self):
        for name, error in vars(errors).items():
            if isinstance(error, type) and error is not errors.BoughError:
                self.assertEqual(error.__bases__, (errors.BoughError,), name)

    def test_all_names_of_the_interface_are_there(self):
        for function, parameters in test_interface.functions():
            self.assertTrue(callable(function))
            self.assertTrue(function.__doc__)

    def test_open_values_are_the_same_at_each_call(self):
        chance = dice(677)
        for _ in range(20):
            wish = some_wish(chance, ("x",), 3, 4, 0.3)
            points = some_points(chance, 8)
            roads = some_saying(chance, 8)
            sentence = drawn_sentence(chance, 4)
            game = ("game", ((0, 1, (0, 1)), (1, 2, (0, 2)), (0, 3, (1,))))
            for function, value in (
                (settled, wish), (wood_for, points), (truth, sentence), (worths, game), (machine_of_roads, roads),
            ):
                if function is not machine_of_roads or is_roads(roads):
                    kept = copy.deepcopy(value)
                    told = told_or_most(function, value)
                    self.assertEqual(told_or_most(function, kept), told)
                    self.assertEqual(value, kept)

    def test_the_limits_of_places(self):
        wood = ("wood", ("x",), ((("x",), 0, 1), ((), 1, 1)))
        deep = ("wood", ("x",), tuple((("x",) if at == 399 else (), min(at + 1, 399), at) for at in range(400)))
        self.assertEqual(len(parting(deep, ("wood", ("x",), (((), 0, 0),)))), 399)
        self.assertIsNone(parting(wood, wood))

    def test_long_formulas_are_decided_soon(self):
        start = time.time()
        formula = ("sub", "x", "y")
        for at in range(32):
            formula = ("both", formula, ("either", ("root", "x"), ("not", ("left", "y", "x")))) if at % 2 else ("not", formula)
        if size_of(formula) <= 100:
            self.assertIn(told_or_most(means, formula, ("wood", ("x", "y"), (((), 0, 0),))), (True, False, 30))
        self.assertLess(time.time() - start, 5)
