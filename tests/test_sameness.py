"""Point [82], and what [87] says of nodes_told, with [26], [27], [41], [45], [53], [58]."""

import time

from allboughs.building import contrary, meeting, widened
from allboughs.chosen import chosen
from allboughs.compiling import machine_of
from allboughs.deciding import means, parted, truth
from allboughs.emptying import bar, is_bar, some_wood
from allboughs.errors import BadFormula, BadScope
from allboughs.formulas import free_names, is_formula
from allboughs.grafting import bare
from allboughs.leastwoods import least_parting
from allboughs.naming import plainly_named
from allboughs.sameness import is_sameness, nodes_told, odds, sameness
from tests.judging import good_bar, wrong_parts
from tests.meanings import some_formula, some_plain, wood_for
from tests.support import Case, dice, junk_but
from tests.test_compiling import TOO_MANY, told_or_most

SUB = ("sub", "x", "y")
ROOTED = ("either", SUB, ("root", "x"))
ROOT = ("wood", ("x", "y"), ((("x",), 1, 1), ((), 1, 1)))


def both_scopes(one, other):
    """The scope of the free names of both."""
    return tuple(sorted({*free_names(one), *free_names(other)}))


def odds_by_the_words(one, other):
    """The odds of two formulas, by the words of [82]."""
    scope = both_scopes(one, other)
    return chosen(meeting(widened(machine_of(one), scope), contrary(widened(machine_of(other), scope))))


def drawn(chance, nodes=5):
    """Two formulas with at most 3 free names together for which sameness tells something."""
    while True:
        one = some_formula(chance, chance.randint(1, nodes), ("x", "y"))
        other = some_formula(chance, chance.randint(1, nodes), ("x", "y", "z"))
        if chance.random() < 0.4:
            other = chance.choice((("not", ("not", one)), ("both", one, one), ("either", other, one), ("not", one), plainly_named(one), ("some", "q", one)))
        if is_formula(other) and is_formula(one) and not isinstance(told_or_most(sameness, one, other), int):
            return one, other


def ways_changed(told):
    """Bars with one way changed."""
    for at, (state, lists) in enumerate(told):
        for row, ways in enumerate(lists):
            for place, way in enumerate(ways):
                changed = (*lists[:row], (*ways[:place], 1 - way, *ways[place + 1:]), *lists[row + 1:])
                yield (*told[:at], (state, changed), *told[at + 1:])


class ByHand(Case):
    def test_by_hand(self):
        word, wood = sameness(one=SUB, other=ROOTED)
        self.assertEqual(word, "parted")
        self.assertNotEqual(means(SUB, wood), means(ROOTED, wood))
        self.assertIs(is_sameness(one=SUB, other=ROOTED, thing=("parted", ROOT)), True)
        told = sameness(SUB, ("both", SUB, SUB))
        self.assertEqual((told[0], len(told)), ("same", 3))
        self.assertTrue(is_sameness(SUB, ("both", SUB, SUB), told))
        self.assertEqual(odds(one=SUB, other=ROOTED), odds_by_the_words(SUB, ROOTED))
        self.assertEqual(nodes_told(one=SUB, other=ROOTED), max(len(odds_by_the_words(*pair)[2]) for pair in ((SUB, ROOTED), (ROOTED, SUB))))
        self.assertIsNone(some_wood(odds(SUB, ROOTED)))
        self.assertIsNotNone(some_wood(odds(ROOTED, SUB)))

    def test_a_formula_and_its_contrary(self):
        for formula in (SUB, ("root", "x"), ("some", "a", ("root", "a")), ("all", "a", ("sub", "a", "x"))):
            self.assertEqual(sameness(formula, formula)[0], "same")
            self.assertEqual(sameness(formula, ("not", formula))[0], "parted")

    def test_unlike_free_names(self):
        word, wood = sameness(SUB, ("root", "z"))
        self.assertEqual((word, wood[1]), ("parted", ("x", "y", "z")))
        told = sameness(("sub", "x", "x"), ("sub", "y", "y"))
        self.assertEqual(told[0], "same")
        self.assertEqual(odds(("sub", "x", "x"), ("sub", "y", "y"))[1], ("x", "y"))
        self.assertEqual(sameness(("sub", "x", "x"), ("some", "a", ("root", "a")))[0], "same")
        self.assertEqual(sameness(("some", "a", ("root", "a")), ("all", "a", ("root", "a")))[0], "parted")

    def test_sentences(self):
        chance = dice(640)
        met = [0, 0]
        while min(met) < 8:
            sentences = []
            for _ in range(2):
                formula = some_plain(chance, 1, ("x", "y"))
                for name in free_names(formula):
                    formula = (chance.choice(("some", "all")), name, formula)
                sentences.append(formula)
            fine = truth(sentences[0])[0] == truth(sentences[1])[0]
            met[fine] += 1
            self.assertIs(sameness(*sentences)[0] == "same", fine)


class Hearts(Case):
    def test_just_one_word(self):
        chance = dice(641)
        seen = {"same": 0, "parted": 0}
        for _ in range(150):
            one, other = drawn(chance)
            told = sameness(one, other)
            seen[told[0]] += 1
            self.assertIs(is_sameness(one, other, told), True)
            self.assertIs(told[0] == "same", parted(one, other) is None)
            if told[0] == "same":
                mine, theirs = odds_by_the_words(one, other), odds_by_the_words(other, one)
                self.assertTrue(good_bar(mine, told[1]) and good_bar(theirs, told[2]))
                for _ in range(2):
                    wood = wood_for(chance, both_scopes(one, other))
                    self.assertIs(means(one, wood), means(other, wood))
                    self.assertFalse(is_sameness(one, other, ("parted", wood)))
            else:
                wood = told[1]
                self.assertEqual(wood[1], both_scopes(one, other))
                self.assertNotEqual(means(one, wood), means(other, wood))
                self.assertLessEqual(len(wood[2]), nodes_told(one, other))
                for thing in (("same", (), ()), ("same", wood, wood)):
                    self.assertFalse(is_sameness(one, other, thing))
        self.assertGreater(min(seen.values()), 40)

    def test_sameness_goes_on(self):
        chance = dice(642)
        for _ in range(25):
            one = some_plain(chance, 1, ("x", "y"))
            rows = [one, ("both", one, one), ("not", ("not", one)), ("either", one, ("both", one, ("root", "x")))]
            for mine in rows:
                for theirs in rows:
                    self.assertEqual(sameness(mine, theirs)[0], "same")

    def test_nodes_told(self):
        chance = dice(643)
        for _ in range(25):
            one, other = some_plain(chance, 1, ("x",)), some_plain(chance, 1, ("x",))
            many = nodes_told(one, other)
            self.assertEqual(many, max(len(odds(one, other)[2]), len(odds(other, one)[2])))
            told = least_parting(one, other, min(3, many))
            if sameness(one, other)[0] == "same":
                self.assertIsNone(told)
            elif many <= 3:
                self.assertIsNotNone(told)
            if told is not None:
                self.assertTrue(is_sameness(one, other, ("parted", told)))

    def test_bars_with_a_way_changed(self):
        met = [0, 0]
        for one, other in ((SUB, ("both", SUB, SUB)), (("root", "x"), ("both", ("root", "x"), ("sub", "x", "x"))), (("left", "x", "x"), ("right", "x", "x"))):
            told = sameness(one, other)
            choices = [odds(one, other), odds(other, one)]
            for at in (1, 2):
                for bar_changed in ways_changed(told[at]):
                    thing = (*told[:at], bar_changed, *told[at + 1:])
                    fine = good_bar(choices[at - 1], bar_changed)
                    met[fine] += 1
                    self.assertIs(is_sameness(one, other, thing), fine)
        self.assertGreater(met[0], 0)

    def test_bars_of_the_other_odds(self):
        one, other = ("root", "x"), ("both", ("root", "x"), ("sub", "x", "x"))
        word, mine, theirs = sameness(one, other)
        self.assertTrue(is_sameness(one, other, (word, bar(odds(one, other)), bar(odds(other, one)))))
        self.assertIs(is_sameness(one, other, (word, theirs, mine)), is_bar(odds(one, other), theirs) and is_bar(odds(other, one), mine))


class Limits(Case):
    def test_woods_of_many_nodes(self):
        """A wood may have more nodes than any that is told."""
        rows = [(("x",), 1, 1)] + [((), min(at + 1, 399), min(at + 1, 399)) for at in range(1, 400)]
        self.assertTrue(is_sameness(SUB, ROOTED, ("parted", ("wood", ("x", "y"), tuple(rows)))))
        self.assertGreater(400, nodes_told(SUB, ROOTED))
        self.assertFalse(is_sameness(SUB, ROOTED, ("parted", ("wood", ("x", "y"), tuple((("y",), at, at) for at in range(400))))))

    def test_three_names_and_four(self):
        self.assertEqual(sameness(SUB, ("sub", "y", "z"))[0], "parted")
        for function in (odds, sameness, nodes_told, lambda one, other: is_sameness(one, other, None)):
            self.fails(BadScope, function, SUB, ("sub", "a", "z"))
            self.fails(BadScope, function, ("both", SUB, ("root", "z")), ("root", "a"))

    def test_too_many(self):
        for most, formula in TOO_MANY:
            for function in (odds, sameness, nodes_told, lambda one, other: is_sameness(one, other, None)):
                self.many(most, function, formula, ("sub", "z", "z"))
                self.many(most, function, ("sub", "z", "z"), formula)

    def test_soon(self):
        chance = dice(644)
        pairs = [drawn(chance, 4) for _ in range(40)]
        start = time.time()
        for one, other in pairs:
            is_sameness(one, other, sameness(one, other))
        self.assertLess(time.time() - start, 6)


class Errors(Case):
    def test_errors(self):
        for function in (odds, sameness, nodes_told, lambda one, other: is_sameness(one, other, None)):
            for thing in junk_but() + [("bare", "x"), ("not", ("road", "x")), ("sub", "x", "root")]:
                self.fails(BadFormula, function, thing, None)
                self.fails(BadFormula, function, SUB, thing)

    def test_any_value(self):
        told = sameness(("root", "x"), ("both", ("root", "x"), ("root", "x")))
        self.none_of(lambda thing: is_sameness(("root", "x"), ("both", ("root", "x"), ("root", "x")), thing), junk_but())
        wrong = [thing for thing in wrong_parts(told) if "xs" not in repr(thing)]
        self.none_of(lambda thing: is_sameness(("root", "x"), ("both", ("root", "x"), ("root", "x")), thing), wrong)
        apart = ("parted", ROOT)
        self.assertTrue(is_sameness(SUB, ROOTED, apart))
        self.none_of(lambda thing: is_sameness(SUB, ROOTED, thing), junk_but())
        self.none_of(lambda thing: is_sameness(SUB, ROOTED, thing), wrong_parts(apart))
        self.none_of(lambda thing: is_sameness(SUB, ROOTED, thing), [
            ("parted", bare(ROOT, ("z",))), ("parted", ("wood", ("x",), ((("x",), 0, 0),))), ("parted",), ("parted", ROOT, ROOT), ("same", ROOT),
            ("same", ROOT, ROOT), ("apart", ROOT), ("parted", ("wood", ("x", "y"), (((), 0, 0),))), ("same",), "same", None])
