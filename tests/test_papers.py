"""Points [80] and [81], with [9], [12], [22], [23], [53], [55], [57]."""

import itertools
import time

from allboughs.compiling import machine_of
from allboughs.deciding import means, truth
from allboughs.errors import BadFormula, BadPaper, BadSentence, BadWood, NoName
from allboughs.formulas import free_names, is_formula
from allboughs.games import is_plan
from allboughs.grafting import bare, without
from allboughs.naming import mirrored
from allboughs.papers import is_answer, is_paper, paper_of, pared, standings_of
from allboughs.playing import game_of, is_verdict, verdict
from allboughs.woods import least
from tests.judging import wrong_parts
from tests.meanings import some_formula, some_plain, true_on, wood_for
from tests.plans import good_plan
from tests.support import Case, dice, junk_but
from tests.test_compiling import TOO_MANY, told_or_most

ONE = ("wood", (), (((), 0, 0),))
W = ("wood", ("a", "x", "y"), ((("a", "x"), 1, 1), (("y",), 1, 2), (("a",), 2, 2)))
SUB = ("sub", "x", "y")
TRUE = ("some", "a", ("root", "a"))
FALSE = ("all", "a", ("root", "a"))
CHAIN_NAMES = ("b", "c")


def game(formula, wood):
    """The game of a formula and a wood, by the words of [80]."""
    names = tuple(name for name in wood[1] if name not in free_names(formula))
    return game_of(machine_of(formula), without(wood, names))


def answers(told, paper):
    """A paper as an answer."""
    return ({"yes": "true", "no": "false"}[paper[0]], paper[1])


def drawn(chance, nodes=6):
    """A formula for which there is a machine, and a wood that has its names."""
    while True:
        formula = some_formula(chance, chance.randint(1, nodes), ("x", "y", "z"))
        if is_formula(formula) and not isinstance(told_or_most(machine_of, formula), int):
            return formula, wood_for(chance, {*free_names(formula), "y"}, 4)


def chain_of(chance, most=6):
    """A chain by the words of [80]."""
    many = chance.randint(1, most)
    names = ["a"] + [CHAIN_NAMES[at % 2] for at in range(many)]
    last = names[-2:]
    told = some_plain(chance, chance.randint(1, 2), last)
    for at in range(many, -1, -1):
        name = names[at]
        says = ("root", name) if at == 0 else (chance.choice(("left", "right")), names[at - 1], name)
        if chance.random() < 0.5:
            told = ("some", name, ("both", says, told))
        else:
            told = ("all", name, ("either", ("not", says), told))
    return told


def inductions():
    """All inductions, by the words of [80]."""
    for rows in itertools.product((("root", "b"), ("left", "a", "b"), ("right", "a", "b")), repeat=3):
        for many in (1, 2, 3):
            parts = [("some", "b", ("both", says, ("sub", "b", "a"))) for says in rows[:many]]
            told = parts[0]
            for part in parts[1:]:
                told = ("both", told, part)
            yield ("all", "a", ("either", ("not", told), ("all", "b", ("sub", "b", "a")))), set(rows[:many])


class ByHand(Case):
    def test_by_hand(self):
        for formula, wood, word in ((SUB, W, "no"), (("not", SUB), W, "yes"), (("root", "x"), W, "yes"), (TRUE, W, "yes"), (FALSE, W, "no")):
            told = paper_of(formula=formula, wood=wood)
            self.assertEqual(told[0], word)
            self.assertIs(is_paper(formula=formula, wood=wood, thing=told), True)
            self.assertEqual(standings_of(formula=formula, wood=wood), len(game(formula, wood)[1]))
            self.assertTrue(is_paper(formula, wood, pared(formula=formula, wood=wood, paper=told)))
        self.assertIs(is_answer(sentence=TRUE, thing=truth(TRUE)), True)
        self.assertTrue(is_answer(FALSE, truth(FALSE)))
        self.assertFalse(is_answer(FALSE, ("true", truth(FALSE)[1])))
        self.assertFalse(is_answer(TRUE, truth(FALSE)))

    def test_further_names_are_left_out_and_nodes_stay(self):
        """The wood is not made a least one: the game has standings for each of its nodes."""
        row = ("wood", ("y",), tuple((("y",), min(at + 1, 9), min(at + 1, 9)) for at in range(10)))
        formula = ("sub", "y", "y")
        self.assertEqual(len(least(row)[2]), 1)
        self.assertEqual(standings_of(formula, row), len(game_of(machine_of(formula), row)[1]))
        self.assertGreater(standings_of(formula, row), standings_of(formula, least(row)))
        self.assertEqual(standings_of(formula, bare(row, ("a", "x"))), standings_of(formula, row))

    def test_a_wood_with_more_names_than_the_formula(self):
        wide = ("wood", ("a", "x", "y"), ((("a", "x", "y"), 1, 1), ((), 1, 1)))
        small = without(wide, ("a",))
        told = paper_of(SUB, wide)
        self.assertEqual(told[0], "yes")
        self.assertTrue(is_paper(SUB, small, told))
        self.assertTrue(is_paper(SUB, wide, paper_of(SUB, small)))

    def test_a_plan_with_more_moves_than_are_needed(self):
        chance = dice(570)
        more = 0
        for _ in range(80):
            formula, wood = drawn(chance)
            word, plan = paper_of(formula, wood)
            told = pared(formula, wood, (word, plan))
            more += len(told[1][2]) < len(plan[2])
            self.assertLessEqual(len(told[1][2]), standings_of(formula, wood))
            self.assertTrue({*told[1][2]} <= {*plan[2]})
        self.assertGreater(more, 5)


class Hearts(Case):
    def test_just_one_word(self):
        chance = dice(571)
        seen = {"yes": 0, "no": 0}
        for _ in range(250):
            formula, wood = drawn(chance)
            word, plan = paper_of(formula, wood)
            seen[word] += 1
            self.assertIs(word == "yes", means(formula, wood))
            played = game(formula, wood)
            self.assertTrue(good_plan(played, plan))
            self.assertEqual(plan[2][0][0], 0)
            self.assertTrue(is_paper(formula, wood, (word, plan)))
            other = {"yes": "no", "no": "yes"}[word]
            for thing in ((other, plan), (other, ("plan", 1 - plan[1], plan[2])), (word, ("plan", 1 - plan[1], plan[2]))):
                self.assertFalse(is_paper(formula, wood, thing))
            alike = paper_of(formula, least(wood))
            self.assertEqual(alike[0], word)
            if len(wood[1]) < 3:
                self.assertEqual(paper_of(formula, bare(wood, ("q",)))[0], word)
        self.assertGreater(min(seen.values()), 50)

    def test_without_binders(self):
        chance = dice(572)
        for _ in range(150):
            formula = some_plain(chance, chance.randint(1, 3), ("x", "y"))
            wood = wood_for(chance, {"x", "y"})
            self.assertIs(paper_of(formula, wood)[0] == "yes", true_on(formula, wood))

    def test_no_paper_of_the_other_word(self):
        """All sketches of small games are tried: those with the other word are none."""
        met = 0
        for formula, wood in ((TRUE, ONE), (FALSE, ONE), (("sub", "x", "x"), ("wood", ("x",), ((("x",), 0, 0),))), (("root", "x"), ("wood", ("x",), (((), 0, 0),)))):
            rows = game(formula, wood)[1]
            if len(rows) > 6:
                continue
            right = paper_of(formula, wood)[0]
            for word, side in (("yes", 0), ("no", 1)):
                options = [[None, *[(row, goal) for goal in (goals if owner == side else (None,))]] for row, (owner, _, goals) in enumerate(rows)]
                for picked in itertools.product(*options):
                    thing = (word, ("plan", side, tuple(move for move in picked if move is not None)))
                    if is_paper(formula, wood, thing):
                        met += 1
                        self.assertEqual(word, right)
        self.assertGreater(met, 3)

    def test_pared(self):
        chance = dice(573)
        for _ in range(150):
            formula, wood = drawn(chance)
            paper = paper_of(formula, wood)
            word, (_, side, moves) = told = pared(formula, wood, paper)[0], pared(formula, wood, paper)[1]
            self.assertEqual(word, paper[0])
            self.assertTrue(is_plan(game(formula, wood), told[1]))
            self.assertEqual(pared(formula, wood, told), told)
            # No move of it can be left out.
            for at in range(len(moves)):
                self.assertFalse(is_paper(formula, wood, (word, ("plan", side, moves[:at] + moves[at + 1:]))))

    def test_papers_and_verdicts(self):
        chance = dice(574)
        for _ in range(60):
            formula, wood = drawn(chance)
            marks = without(wood, tuple(name for name in wood[1] if name not in free_names(formula)))
            self.assertTrue(is_paper(formula, wood, verdict(machine_of(formula), marks)))
            self.assertTrue(is_verdict(machine_of(formula), marks, paper_of(formula, wood)))

    def test_answers(self):
        chance = dice(575)
        seen = {"true": 0, "false": 0}
        while min(seen.values()) < 30:
            formula, _ = drawn(chance)
            sentence = formula
            for name in free_names(formula):
                sentence = (chance.choice(("some", "all")), name, sentence)
            if isinstance(told_or_most(machine_of, sentence), int):
                continue
            told = truth(sentence)
            seen[told[0]] += 1
            self.assertIs(is_answer(sentence, told), True)
            self.assertTrue(is_answer(sentence, answers(told, paper_of(sentence, ONE))))
            self.assertTrue(is_answer(sentence, answers(told, pared(sentence, ONE, paper_of(sentence, ONE)))))
            other = {"true": "false", "false": "true"}[told[0]]
            self.assertFalse(is_answer(sentence, (other, told[1])))
            self.assertFalse(is_answer(sentence, (other, ("plan", 1 - told[1][1], told[1][2]))))
            self.assertFalse(is_answer(sentence, paper_of(sentence, ONE)))


class NoTooMany(Case):
    def test_chains(self):
        """One chain of some hundred is known for which the machine made as [53] says raises TooMany: none here is."""
        chance = dice(576)
        for _ in range(60):
            one, other = chain_of(chance), chain_of(chance)
            words = [truth(chain)[0] for chain in (one, other)]
            self.assertEqual(truth(("both", one, other))[0] == "true", words == ["true", "true"])
            self.assertEqual(truth(("either", ("not", one), other))[0] == "true", words != ["true", "false"])
            self.assertNotEqual(truth(("not", one))[0], words[0])
            self.assertEqual(truth(mirrored(one))[0], words[0])

    def test_induction(self):
        for sentence, parts in inductions():
            word = "true" if len(parts) == 3 else "false"
            self.assertEqual(truth(sentence)[0], word)
            self.assertEqual(truth(mirrored(sentence))[0], word)
            self.assertNotEqual(truth(("not", sentence))[0], word)

    def test_soon(self):
        chance = dice(577)
        pairs = [drawn(chance, 5) for _ in range(60)]
        start = time.time()
        for formula, wood in pairs:
            self.assertTrue(is_paper(formula, wood, paper_of(formula, wood)))
        self.assertLess(time.time() - start, 4)


class Errors(Case):
    def test_errors(self):
        functions = (paper_of, standings_of, lambda formula, wood: is_paper(formula, wood, None), lambda formula, wood: pared(formula, wood, None))
        for function in functions:
            for thing in junk_but() + [("bare", "x"), ("not", ("road", "x")), ("sub", "x", "root")]:
                self.fails(BadFormula, function, thing, None)
            for thing in junk_but():
                self.fails(BadWood, function, SUB, thing)
            self.assertEqual(self.fails(NoName, function, ("both", ("root", "z"), ("sub", "q", "y")), W).name, "q")
            self.assertEqual(self.fails(NoName, function, SUB, ONE).name, "x")
            for most, formula in TOO_MANY:
                wood = ("wood", free_names(formula), (((), 0, 0),))
                self.many(most, function, formula, wood)
                if free_names(formula):
                    self.fails(NoName, function, formula, ONE)

    def test_20000_standings(self):
        """A game has no more rows, so there is no plan of more; means, which tells none, has no such limit."""
        rows = tuple((("x", "y") if at % 3 else (), (at + 1) % 400, at) for at in range(400))
        wood = ("wood", ("x", "y"), rows)
        few, many = [("sub", "x", "y")] * 20, [("sub", "x", "y")] * 40
        while len(few) > 1:
            few = [*few[2:], ("both", few[0], few[1])]
        while len(many) > 1:
            many = [*many[2:], ("both", many[0], many[1])]
        self.assertGreater(standings_of(few[0], wood), 15000)
        self.assertEqual(paper_of(few[0], wood)[0], "yes")
        self.assertTrue(means(many[0], wood))
        for function in (paper_of, standings_of):
            self.many(20000, function, many[0], wood)
        self.many(20000, is_paper, many[0], wood, None)
        self.many(20000, pared, many[0], wood, None)

    def test_bad_sentence(self):
        for thing in junk_but() + [SUB, ("root", "a"), ("some", "x", ("road", "x")), ("all", "x", ("either", ("bare", "x"), ("root", "x")))]:
            self.fails(BadSentence, is_answer, thing, None)
        closed = [(most, formula) for most, formula in TOO_MANY if not free_names(formula)]
        for most, formula in closed + [(2000, ("some", "x", ("some", "z", TOO_MANY[1][1])))]:
            self.many(most, is_answer, formula, None)

    def test_bad_paper(self):
        paper = paper_of(SUB, W)
        self.assertEqual(paper[0], "no")
        things = junk_but() + [
            ("yes", paper[1]), ("no", paper[1], 0), ["no", paper[1]], ("no", None), ("no", ("plan", 0, paper[1][2])), ("no", ("plan", 1, ())),
            ("no", ("plan", 1, paper[1][2][1:])), paper[1], ("false", paper[1]),
        ]
        for thing in things:
            self.fails(BadPaper, pared, SUB, W, thing)
            self.assertIs(is_paper(SUB, W, thing), False)

    def test_any_value(self):
        paper = pared(SUB, W, paper_of(SUB, W))
        self.none_of(lambda thing: is_paper(SUB, W, thing), wrong_parts(paper))
        self.none_of(lambda thing: is_paper(SUB, W, thing), junk_but())
        told = pared(TRUE, ONE, paper_of(TRUE, ONE))
        self.none_of(lambda thing: is_answer(TRUE, thing), junk_but())
        self.none_of(lambda thing: is_answer(TRUE, thing), wrong_parts(("true", told[1])))
        self.assertIs(is_answer(TRUE, ("true", told[1])), True)
