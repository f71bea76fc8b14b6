"""Point [44]."""

from allboughs.building import contrary, meeting
from allboughs.choices import as_machine, is_choices
from allboughs.chosen import chosen
from allboughs.errors import BadChoices, OtherScope
from allboughs.inclusion import inside, met, outside
from allboughs.woods import is_wood
from tests.support import Case, choices_let, dice, junk_but, some_choices, some_wood_of
from tests.test_choices import C
from tests.test_compiling import told_or_most

X = ("x",)
EVERYTHING = ("choices", X, ((0, (((0, 0),), ((0, 0),))),))
NOTHING = ("choices", X, ((1, (((0, 0),), ((0, 0),))),))


def line(many):
    """Choices of so many states, one behind the other."""
    return ("choices", (), tuple((0, (tuple(sorted({((at + 1) % many, at), (at, (at + 1) % many)})),)) for at in range(many)))


def steps(top):
    """Choices with the ranks from 0 to top, each leading to the ranks beside it."""
    return ("choices", (), tuple((at, (((max(0, at - 1), min(top, at + 1)),),)) for at in range(top + 1)))


class ByHand(Case):
    def test_by_hand(self):
        bare = ("wood", X, (((), 0, 0),))
        root = ("wood", X, ((X, 1, 1), ((), 1, 1)))
        for choices, fine, other in ((C, False, True), (EVERYTHING, True, True), (NOTHING, False, False)):
            self.assertIs(choices_let(met(one=choices, other=EVERYTHING), bare), fine)
            self.assertIs(choices_let(met(choices, EVERYTHING), root), other)
            self.assertIs(choices_let(outside(choices=choices), bare), not fine)
            self.assertIs(choices_let(outside(choices), root), not other)
        self.assertIsNone(inside(one=C, other=EVERYTHING))
        self.assertIsNone(inside(NOTHING, C))
        self.assertIsNone(inside(C, C))
        told = inside(EVERYTHING, C)
        self.assertFalse(choices_let(C, told))
        self.assertIsNotNone(inside(C, NOTHING))

    def test_what_they_are(self):
        self.assertEqual(met(C, EVERYTHING), chosen(meeting(as_machine(C), as_machine(EVERYTHING))))
        self.assertEqual(outside(C), chosen(contrary(as_machine(C))))


class Hearts(Case):
    def test_met_and_outside(self):
        chance = dice(360)
        seen = {}
        for _ in range(150):
            scope = chance.choice(((), X))
            one, other = [some_choices(chance, scope, chance.randint(1, 2), 3, 2) for _ in range(2)]
            both, away = told_or_most(met, one, other), told_or_most(outside, one)
            self.assertEqual(both, told_or_most(lambda: chosen(meeting(as_machine(one), as_machine(other)))))
            self.assertEqual(away, told_or_most(lambda: chosen(contrary(as_machine(one)))))
            for _ in range(2):
                wood = some_wood_of(chance, scope, 2)
                mine, theirs = choices_let(one, wood), choices_let(other, wood)
                if not isinstance(both, int) and len(both[2]) < 30:
                    self.assertTrue(is_choices(both))
                    self.assertIs(choices_let(both, wood), mine and theirs)
                    seen[mine, theirs] = seen.get((mine, theirs), 0) + 1
                if not isinstance(away, int) and len(away[2]) < 30:
                    self.assertTrue(is_choices(away))
                    self.assertIs(choices_let(away, wood), not mine)
        self.assertEqual(len(seen), 4)
        self.assertGreater(min(seen.values()), 10)

    def test_inside(self):
        chance = dice(361)
        seen = [0, 0]
        for _ in range(200):
            scope = chance.choice(((), X))
            one, other = [some_choices(chance, scope, chance.randint(1, 3), 3, 2) for _ in range(2)]
            told = told_or_most(inside, one, other)
            if isinstance(told, int):
                continue
            seen[told is None] += 1
            if told is None:
                for _ in range(6):
                    wood = some_wood_of(chance, scope, 3)
                    self.assertFalse(choices_let(one, wood) and not choices_let(other, wood))
            else:
                self.assertTrue(is_wood(told))
                self.assertLessEqual(len(told[2]), len(chosen(meeting(as_machine(one), contrary(as_machine(other))))[2]))
                if len(told[2]) < 12:
                    self.assertTrue(choices_let(one, told))
                    self.assertFalse(choices_let(other, told))
        self.assertGreater(min(seen), 50)


class Errors(Case):
    def test_errors(self):
        for thing in junk_but():
            self.fails(BadChoices, outside, thing)
            for function in (met, inside):
                self.fails(BadChoices, function, thing, C)
                self.fails(BadChoices, function, C, thing)
        for function in (met, inside):
            self.fails(OtherScope, function, C, line(30))
            self.fails(OtherScope, function, line(30), C)

    def test_too_many(self):
        self.many(24, outside, line(25))
        self.many(24, met, line(12), line(13))
        self.many(24, inside, line(12), line(13))
        self.many(9, outside, steps(9))
        self.many(9, met, steps(0), steps(10))
        self.many(9, inside, steps(0), steps(9))
        self.assertTrue(is_choices(met(steps(0), steps(9))))
        self.assertTrue(is_choices(outside(steps(3))))
