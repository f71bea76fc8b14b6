"""Point [45]."""

from allboughs.emptying import bar, is_bar, some_wood
from allboughs.errors import BadChoices
from allboughs.guides import is_refusal
from allboughs.woods import is_wood
from tests.judging import good_bar, ill_formed
from tests.support import Case, bits, choices_let, dice, junk_but, some_choices, some_wood_of, useful_states
from tests.test_choices import C


class ByHand(Case):
    def test_some_wood(self):
        told = some_wood(choices=C)
        self.assertTrue(choices_let(C, told))
        self.assertTrue(choices_let(C, ("wood", ("x",), ((("x",), 1, 1), ((), 1, 1)))))
        self.assertLessEqual(len(told[2]), 2)
        self.assertIsNone(bar(choices=C))

    def test_bar(self):
        choices = ("choices", ("x",), ((1, (((0, 1),), ())), (2, (((0, 0), (1, 0)), ((0, 0),)))))
        self.assertIsNone(some_wood(choices))
        self.assertIs(is_bar(choices, bar(choices)), True)
        self.assertIs(is_bar(choices=choices, thing=((0, ((0,), ())),)), True)
        self.assertTrue(is_bar(choices, ((0, ((0,), ())), (1, ((0, 1), (1,))))))
        self.none_of(lambda thing: is_bar(choices, thing), (
            (), ((0, ((1,), ())),), ((0, ((1,), ())), (1, ((0, 1), (1,)))), ((1, ((0, 1), (1,))),), ((0, ((0,),)),), ((0, ((0, 0), ())),),
            ((0, ((0,), (0,))),), ((0, [(0,), ()]),), ((0, ([0], ())),), ((0, ((False,), ())),), ((0, ((2,), ())),), ((False, ((0,), ())),),
            ((0, ((0,), ())), (0, ((0,), ()))), ((1, ((0, 1), (1,))), (0, ((0,), ()))), ((2, ((0,), ())),), ((0, ((0,), ()), 0),), None, 0,
            ((0, ((0,), ())), (1, ((1, 1), (1,))), (2, ((), ()))),
        ))

    def test_no_lists(self):
        choices = ("choices", (), ((0, ((),)),))
        self.assertEqual(bar(choices), ((0, ((),)),))
        self.assertIsNone(some_wood(choices))

    def test_even_and_odd(self):
        even, odd = (("choices", (), ((rank, (((0, 0),),)),)) for rank in (300, 299))
        self.assertEqual(some_wood(even), ("wood", (), (((), 0, 0),)))
        self.assertIsNone(bar(even))
        self.assertIsNone(some_wood(odd))
        self.assertTrue(is_bar(odd, bar(odd)))
        self.assertTrue(is_bar(odd, ((0, ((1,),)),)))
        self.assertFalse(is_bar(even, ((0, ((0,),)),)))


class Heart(Case):
    def test_a_wood_or_a_bar(self):
        chance = dice(110)
        seen = [0, 0]
        for _ in range(600):
            choices = some_choices(chance, chance.choice(((), ("x",))), chance.randint(1, 5), chance.choice((2, 3, 6)), 2)
            wood, told = some_wood(choices), bar(choices)
            useful = 0 in useful_states(choices)
            self.assertEqual((wood is not None, told is not None), (useful, not useful))
            seen[useful] += 1
            if useful:
                self.assertTrue(is_wood(wood) and choices_let(choices, wood))
                self.assertLessEqual(len(wood[2]), len(choices[2]))
                self.assertEqual(wood[1], choices[1])
            else:
                self.assertTrue(is_bar(choices, told) and good_bar(choices, told))
        self.assertGreater(min(seen), 100)

    def test_a_bar_refuses_each_wood(self):
        chance = dice(111)
        met = 0
        for _ in range(200):
            choices = some_choices(chance, ("x",), 3, 4, 2)
            told = bar(choices)
            if told is None:
                continue
            met += 1
            wood = some_wood_of(chance, ("x",), 3)
            ways = dict(told)
            thing = []
            for node in range(3):
                for state in ways:
                    thing.append(((node, state), ways[state][bits(("x",)).index(wood[2][node][0])]))
            self.assertTrue(is_refusal(choices, wood, tuple(thing)))
        self.assertGreater(met, 30)

    def test_a_part_changed(self):
        chance = dice(112)
        seen = [0, 0]
        for _ in range(300):
            choices = some_choices(chance, (), 3, 4, 3)
            told = bar(choices)
            if told is None:
                continue
            self.none_of(lambda thing: is_bar(choices, thing), ill_formed(told))
            for at, (state, (row,)) in enumerate(told):
                for place, way in enumerate(row):
                    fresh = (state, ((*row[:place], 1 - way, *row[place + 1:]),))
                    thing = (*told[:at], fresh, *told[at + 1:])
                    self.assertEqual(is_bar(choices, thing), good_bar(choices, thing))
                    seen[is_bar(choices, thing)] += 1
                thing = told[:at] + told[at + 1:]
                self.assertEqual(is_bar(choices, thing), good_bar(choices, thing))
        self.assertGreater(min(seen), 20)

    def test_judge_takes_just_what_the_words_say(self):
        chance = dice(113)
        seen = [0, 0]
        for _ in range(3000):
            choices = some_choices(chance, (), 3, 3, 2)
            states = [state for state in range(3) if chance.random() < 0.7]
            thing = tuple((state, (tuple(chance.randrange(2) for _ in choices[2][state][1][0]),)) for state in states)
            self.assertIs(is_bar(choices, thing), good_bar(choices, thing))
            seen[is_bar(choices, thing)] += 1
        self.assertGreater(min(seen), 50)


class Errors(Case):
    def test_errors(self):
        for thing in junk_but():
            self.fails(BadChoices, some_wood, thing)
            self.fails(BadChoices, bar, thing)
            self.fails(BadChoices, is_bar, thing, None)

    def test_any_value(self):
        self.none_of(lambda thing: is_bar(C, thing), junk_but())

    def test_400_states(self):
        rows = tuple((at % 301, (((min(399, at + 1), max(0, at - 1)), (399 - at, 0)),)) for at in range(400))
        rows = tuple((rank, (tuple(sorted(set(pairs))),)) for rank, (pairs,) in rows)
        choices = ("choices", (), rows)
        wood = some_wood(choices)
        self.assertTrue(is_bar(choices, bar(choices)) if wood is None else is_wood(wood))
