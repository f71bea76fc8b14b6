"""Point [42]."""

from allboughs.errors import BadChoices, BadWood, OtherScope
from allboughs.guides import guide, is_guide, is_refusal, refusal
from tests.judging import good_guide, good_refusal, ill_formed
from tests.support import Case, choices_let, dice, junk_but, some_choices, some_wood_of
from tests.test_choices import C

X = ("x",)
BARE = ("wood", X, (((), 0, 0),))
ROOT = ("wood", X, ((X, 1, 1), ((), 1, 1)))


def ring(many, rank=0, more=()):
    """Choices without names in which each state has the pair of the next one, twice."""
    rows = [(rank, ((((at + 1) % many, (at + 1) % many), *more),)) for at in range(many)]
    return ("choices", (), tuple(rows))


def line(many):
    """A wood in which each node leads to the next one, the last one to the first."""
    return ("wood", (), tuple(((), (at + 1) % many, (at + 1) % many) for at in range(many)))


class ByHand(Case):
    def test_refusals(self):
        for way in (0, 1):
            self.assertIs(is_refusal(C, BARE, (((0, 0), (way,)),)), True)
        self.assertIs(is_refusal(choices=C, wood=BARE, thing=refusal(C, BARE)), True)
        self.assertIsNone(guide(C, BARE))
        self.none_of(lambda thing: is_guide(C, BARE, thing), ((((0, 0), (0, 0)),), (((0, 0), (0,)),), ()))

    def test_guides(self):
        told = (((0, 0), (1, 1)), ((1, 1), (1, 1)))
        self.assertEqual(guide(choices=C, wood=ROOT), told)
        self.assertIs(is_guide(choices=C, wood=ROOT, thing=told), True)
        self.assertIsNone(refusal(choices=C, wood=ROOT))
        further = (((0, 0), (1, 1)), ((0, 1), (1, 1)), ((1, 1), (1, 1)))
        self.assertTrue(is_guide(C, ROOT, further))
        self.none_of(lambda thing: is_guide(C, ROOT, thing), (
            told[:1], told[1:], told[::-1], (((0, 0), (0, 0)), told[1]), (*told, told[1]), (told[0], ((1, 0), (0, 0)), told[1]),
            (told[0], ((1, 1), (1, 1), 0)), (((0, 0), (1, 1)), ((1, 1), (0, 1))), (((0, 0), (1, 1)), ((1, 2), (1, 1))), (),
            (((0, 0), (1, 1)), ((1, True), (1, 1))), (((False, 0), (1, 1)), told[1]), (((0, 0), (1, True)), told[1]), None,
        ))

    def test_nothing_to_pick(self):
        choices = ("choices", X, ((0, ((), ((0, 0),))),))
        self.assertEqual(refusal(choices, BARE), (((0, 0), ()),))
        self.assertTrue(is_refusal(choices, BARE, (((0, 0), ()),)))
        self.assertIsNone(guide(choices, BARE))
        self.assertFalse(is_guide(choices, BARE, (((0, 0), ()),)))
        self.assertFalse(is_refusal(choices, BARE, (((0, 0), (0,)),)))

    def test_a_pair_with_both_places_the_same(self):
        self.assertEqual(guide(ring(1), line(1)), (((0, 0), (0, 0)),))
        self.assertTrue(is_refusal(ring(1, 1), line(1), refusal(ring(1, 1), line(1))))

    def test_one_way_for_each_pair(self):
        choices = ("choices", (), ((1, (((0, 0), (0, 1), (1, 0)),)), (2, (((1, 1),),))))
        told = refusal(choices, line(1))
        self.assertIs(is_refusal(choices, line(1), told), True)
        fine = (((0, 0), (0, 0, 1)),)
        self.assertTrue(is_refusal(choices, line(1), fine))
        for ways in ((0, 1, 0), (0, 0, 0), (0, 0), (0, 0, 1, 0), [0, 0, 1], (0, 0, 2), (0, False, 1), (0, 0, 1.0), 0, None):
            self.assertFalse(is_refusal(choices, line(1), (((0, 0), ways),)), ways)


class Heart(Case):
    def test_just_one_of_the_two(self):
        chance = dice(90)
        seen = [0, 0]
        for _ in range(500):
            many = chance.randint(1, 5)
            choices = some_choices(chance, X, many, chance.choice((2, 3, 5)), 3)
            wood = some_wood_of(chance, X, chance.randint(1, 4))
            told, other = guide(choices, wood), refusal(choices, wood)
            fine = choices_let(choices, wood)
            self.assertEqual((told is not None, other is not None), (fine, not fine))
            seen[fine] += 1
            if fine:
                self.assertTrue(is_guide(choices, wood, told) and good_guide(choices, wood, told))
                self.assertFalse(is_refusal(choices, wood, told))
            else:
                self.assertTrue(is_refusal(choices, wood, other) and good_refusal(choices, wood, other))
                self.assertFalse(is_guide(choices, wood, other))
        self.assertGreater(min(seen), 100)

    def test_a_part_changed(self):
        chance = dice(91)
        refused = 0
        for _ in range(120):
            choices = some_choices(chance, X, 3, 4, 3)
            wood = some_wood_of(chance, X, 2)
            told = guide(choices, wood)
            judge, good = (is_guide, good_guide) if told else (is_refusal, good_refusal)
            told = told or refusal(choices, wood)
            self.none_of(lambda thing: judge(choices, wood, thing), ill_formed(told))
            for at, ((node, state), row) in enumerate(told):
                for fresh in self.changed(row, judge is is_guide):
                    thing = (*told[:at], ((node, state), fresh), *told[at + 1:])
                    self.assertEqual(judge(choices, wood, thing), good(choices, wood, thing))
                    refused += not judge(choices, wood, thing)
                thing = told[:at] + told[at + 1:]
                self.assertEqual(judge(choices, wood, thing), good(choices, wood, thing))
                refused += not judge(choices, wood, thing)
        self.assertGreater(refused, 300)

    def changed(self, row, is_pair):
        """The pair or the ways with one part changed."""
        for at, old in enumerate(row):
            for new in range(3 if is_pair else 2):
                if new != old:
                    yield (*row[:at], new, *row[at + 1:])

    def test_judges_take_just_what_the_words_say(self):
        chance = dice(92)
        seen = [0, 0, 0, 0]
        for _ in range(3000):
            choices = some_choices(chance, (), 2, 3, 2)
            wood = some_wood_of(chance, (), chance.randint(1, 2))
            spots = [(node, q) for node in range(len(wood[2])) for q in range(2)]
            picked = [spot for spot in spots if chance.random() < 0.6]
            thing = tuple((spot, (chance.randrange(2), chance.randrange(2))) for spot in picked)
            answer = is_guide(choices, wood, thing)
            self.assertIs(answer, good_guide(choices, wood, thing))
            seen[answer] += 1
            thing = tuple((spot, tuple(chance.randrange(2) for _ in choices[2][spot[1]][1][0])) for spot in picked)
            answer = is_refusal(choices, wood, thing)
            self.assertIs(answer, good_refusal(choices, wood, thing))
            seen[2 + answer] += 1
        self.assertGreater(min(seen), 20)


class Limits(Case):
    def test_20000_standings(self):
        wood = line(400)
        for rank, function, judge in ((0, guide, is_guide), (1, refusal, is_refusal)):
            told = function(ring(50, rank, ()), wood)
            self.assertTrue(judge(ring(50, rank), wood, told))
        self.assertEqual(len(guide(ring(49), line(400))), 49 * 400)
        for function in (guide, refusal):
            self.many(20000, function, ring(51), wood)
            self.many(20000, function, ring(400), line(51))
        for function in (is_guide, is_refusal):
            self.many(20000, function, ring(51), wood, None)

    def test_standings_count_even_if_they_are_not_come_to(self):
        far = ("choices", (), tuple((0, (((0, 0),),)) for _ in range(201)))
        self.many(20000, guide, far, line(100))
        self.assertEqual(len(guide(("choices", (), far[2][:200]), line(100))), 100)

    def test_many_ranks(self):
        many = 300
        rows = [(at, (((0, 0), (max(0, at - 1), (at + 1) % many)),)) for at in range(many)]
        for begin in (0, 1):
            rows[0] = (begin, rows[0][1])
            choices = ("choices", (), tuple(rows))
            wood = line(2)
            told = guide(choices, wood)
            self.assertTrue(is_guide(choices, wood, told) if told else is_refusal(choices, wood, refusal(choices, wood)))


class Errors(Case):
    def test_in_order(self):
        large = ring(400)
        for function, more in ((guide, ()), (refusal, ()), (is_guide, (None,)), (is_refusal, (None,))):
            for thing in junk_but():
                self.fails(BadChoices, function, thing, None, *more)
                self.fails(BadWood, function, C, thing, *more)
            self.fails(BadWood, function, large, ("wood", (), line(401)[2]), *more)
            self.fails(OtherScope, function, large, ("wood", X, (((), 0, 0),) * 400), *more)
            self.fails(OtherScope, function, C, line(3), *more)

    def test_any_value(self):
        for function in (is_guide, is_refusal):
            self.none_of(lambda thing: function(C, ROOT, thing), junk_but())
            self.none_of(lambda thing: function(C, BARE, thing), junk_but())
