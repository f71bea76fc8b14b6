"""Point [41]."""

import itertools

from allboughs.choices import as_machine, is_choices, tidied
from allboughs.chosen import chosen
from allboughs.errors import BadMachine, TooMany
from allboughs.histories import first, led
from allboughs.machines import pressed
from allboughs.models import models
from tests.support import Case, choices_let, dice, junk_but, machine_lets, some_machine, some_wood_of
from tests.test_choices import C
from tests.test_machines import line
from tests.test_models import any_of

NO = ("no",)


def chosen_by_the_words(machine):
    """What [41] says, sentence by sentence, or the number of TooMany."""
    _, scope, rows = pressed(machine)
    if len(rows) > 24:
        return 24
    ranks = tuple(rank for rank, _ in rows)
    if max(ranks) > 9:
        return 9
    try:
        known = [[models(condition) for condition in conditions] for _, conditions in rows]
    except TooMany:
        return 2000
    states = [(first(ranks), 0)]
    told = []
    for history, rank in states:
        lists = []
        for letter in range(2 ** len(scope)):
            rows_of = [known[q][letter] for q in history[0]]
            if all(rows_of) and over([len(row) for row in rows_of], 2000):
                return 2000
            pairs = set()
            for guess in itertools.product(*rows_of):
                numbers = []
                for side in (0, 1):
                    step = tuple(sorted((q, s) for q, model in zip(history[0], guess) for way, s in model if way == side))
                    state = led(ranks, history, step)
                    if state not in states:
                        if len(states) == 400:
                            return 400
                        states.append(state)
                    numbers.append(states.index(state))
                pairs.add(tuple(numbers))
            lists.append(tuple(sorted(pairs)))
        told.append((rank, tuple(lists)))
    if any(len(pairs) > 400 for _, lists in told for pairs in lists):
        return 400
    return tidied(("choices", scope, tuple(told)))


def over(numbers, most):
    """Whether the product of numbers is more than most."""
    product = 1
    for number in numbers:
        product *= number
    return product > most


def all_to(*goals):
    """The condition to go to all of the goals."""
    told = ("go", *goals[0])
    for goal in goals[1:]:
        told = ("both", told, ("go", *goal))
    return told


def five_of(parts):
    """The condition that one of five parts holds."""
    return ("either", ("either", ("either", parts[0], parts[1]), parts[2]), ("either", parts[3], parts[4]))


def fan(conditions, ends=0):
    """A machine whose first state sends, on the left, all states with these conditions; ends stand behind them."""
    first_one = all_to(*[(0, at + 1) for at in range(len(conditions))])
    rows = [(0, (condition,)) for condition in (first_one, *conditions)]
    return ("machine", (), (*rows, *[(0, (NO,))] * ends))


def ladder(top):
    """A machine of the ranks from 0 to top, all of which stay when it is pressed."""
    rows = []
    for at in range(top + 1):
        rows.append((at, (("either", ("go", 0, max(0, at - 1)), ("go", 0, min(top, at + 1))),)))
    return ("machine", (), tuple(rows))


# A condition of goes to seven states for which models raises TooMany, though it has few models.
WIDE = ("both", ("both", any_of(0, 7), any_of(400, 7)), ("both", any_of(0, 7), any_of(400, 7)))


class ByHand(Case):
    def test_by_hand(self):
        told = chosen(machine=as_machine(C))
        self.assertEqual(told, ("choices", ("x",), (
            (0, (((1, 1),), ((2, 2),))), (0, (((3, 3),), ((4, 4),))), (0, (((2, 2),), ((2, 2),))),
            (1, (((3, 3),), ((4, 4),))), (0, (((4, 4),), ((4, 4),))))))

    def test_no_model_no_pair(self):
        self.assertEqual(chosen(("machine", ("x",), ((0, (NO, ("yes",))),))), ("choices", ("x",), (
            (0, ((), ((1, 1),))), (0, (((1, 1),), ((1, 1),))))))
        told = chosen(fan([any_of(0, 2)] * 10 + [any_of(400, 12)] + [NO]))
        self.assertEqual(sum(len(pairs) for _, (pairs,) in told[2] if pairs == ()), 0)
        self.assertIn(0, [len(pairs) for _, (pairs,) in told[2]])

    def test_of_each_pair_once(self):
        both = ("either", ("go", 0, 0), ("go", 0, 1))
        told = chosen(("machine", (), ((0, (both,)), (0, (both,)))))
        self.assertTrue(is_choices(told))
        self.assertEqual(told, chosen_by_the_words(("machine", (), ((0, (both,)), (0, (both,))))))


class Heart(Case):
    def test_it_lets_by_the_same(self):
        chance = dice(130)
        seen = [0, 0]
        for _ in range(250):
            scope = chance.choice(((), ("x",)))
            machine = some_machine(chance, scope, chance.randint(1, 4), 5, chance.randint(2, 4))
            try:
                told = chosen(machine)
            except TooMany:
                continue
            self.assertTrue(is_choices(told))
            for _ in range(3):
                wood = some_wood_of(chance, scope, 2)
                if len(told[2]) < 40:
                    fine = choices_let(told, wood)
                    self.assertEqual(fine, machine_lets(machine, wood))
                    seen[fine] += 1
        self.assertGreater(min(seen), 100)

    def test_by_the_words(self):
        chance = dice(131)
        seen = {}
        for at in range(160):
            scope = chance.choice(((), ("x",), ("x", "y")))
            machine = some_machine(chance, scope, chance.randint(1, 8), chance.randint(1, 6), chance.randint(2, 4))
            wanted = chosen_by_the_words(machine)
            seen[wanted if isinstance(wanted, int) else 0] = True
            if isinstance(wanted, int):
                self.many(wanted, chosen, machine)
            else:
                self.assertEqual(chosen(machine), wanted)
        self.assertIn(0, seen)
        self.assertIn(400, seen)


class Limits(Case):
    def test_24_states(self):
        told = chosen(line(24, [0] * 24))
        self.assertEqual(len(told[2]), 25)
        self.many(24, chosen, line(25, [0] * 25))
        far = ("machine", (), (*line(24, [0] * 24)[2], *[(0, (NO,))] * 300))
        self.assertEqual(chosen(far), told)

    def test_rank_9(self):
        self.assertEqual(max(rank for rank, _ in pressed(ladder(9))[2]), 9)
        self.assertTrue(is_choices(chosen(ladder(9))))
        self.many(9, chosen, ladder(10))
        self.assertTrue(is_choices(chosen(line(3, [10, 300, 8]))))

    def test_guesses(self):
        two = ("either", ("go", 0, 0), ("go", 1, 0))
        self.assertTrue(is_choices(chosen(fan([two] * 10))))
        self.many(2000, chosen, fan([two] * 11))
        self.many(2000, chosen, ("machine", (), ((0, (("both", ("go", 0, 1), ("go", 0, 2)),)),
                                                 *[(0, (any_of(0, 15),))] * 2, *[(0, (any_of(0, 9),))] * 12)))
        self.assertTrue(is_choices(chosen(fan([two] * 11 + [NO]))))
        five = five_of([("go", 0, 8), ("go", 1, 8), ("go", 0, 9), ("go", 1, 9), ("go", 0, 10)])
        two = ("either", ("go", 0, 8), ("go", 1, 8))
        self.assertTrue(is_choices(chosen(fan([two] * 4 + [five] * 3, 3))))
        self.many(2000, chosen, fan([two] * 5 + [five] * 3, 2))

    def test_models(self):
        self.many(2000, models, WIDE)
        self.many(2000, chosen, ("machine", (), ((0, (WIDE,)), *[(0, (("go", 0, 0),))] * 10)))
        rows = self.subsets(9)[2]
        self.many(400, chosen, ("machine", (), rows))
        self.many(2000, chosen, ("machine", (), (*rows[:9], (0, (("either", rows[9][1][0], WIDE),)))))

    def test_states(self):
        rows = []
        for at in range(9):
            rows.append((0, (("either", ("go", 0, (at + 1) % 9), ("both", ("go", 0, at), ("go", 0, (at + 2) % 9))),)))
        wanted = chosen_by_the_words(("machine", (), tuple(rows)))
        self.assertTrue(wanted == 400 or len(wanted[2]) > 100)
        self.many(400, chosen, self.subsets(9))
        self.assertGreater(len(chosen(self.subsets(8))[2]), 200)

    def subsets(self, many):
        """A machine whose histories reach all lots of so many states."""
        rows = [(0, (all_to(*[(0, at + 1) for at in range(many)]),))]
        for at in range(many):
            rows.append((0, (("either", ("go", 0, at + 1), ("go", 1, at + 1)),)))
        return ("machine", (), tuple(rows))

    def test_pairs(self):
        # Behind the first place 22 times 22 guesses, all of them unlike, tell 484 pairs of but few histories.
        rows = [(0, (all_to((0, 1), (0, 2)),))]
        rows.append((0, (any_of(0, 22),)))
        rows.append((0, (any_of(400, 22),)))
        rows.extend([(0, (NO,))] * 19)
        machine = ("machine", (), tuple(rows))
        self.assertEqual(chosen_by_the_words(machine), 400)
        self.many(400, chosen, machine)
        rows[1:3] = [(0, (any_of(0, 20),)), (0, (any_of(400, 20),))]
        told = chosen(("machine", (), tuple(rows)))
        self.assertEqual(max(len(pairs) for _, (pairs,) in told[2]), 400)

    def test_order_of_too_many(self):
        self.many(24, chosen, line(25, range(25)))
        rows = ladder(10)[2]
        self.many(9, chosen, ("machine", (), (*rows[:10], (10, (("either", rows[10][1][0], WIDE),)))))
        self.many(24, chosen, ("machine", (), ((0, (("either", ("go", 0, 1), WIDE),)), *line(25, [0] * 25)[2][1:])))

    def test_guesses_behind_a_long_list(self):
        # The long list is met ahead of the guesses, but it is asked for behind all else.
        rows = [(0, (all_to((0, 1), (0, 2)),)), (0, (any_of(0, 22),)), (0, (any_of(400, 22),))]
        rows.append((0, (all_to(*[(0, at) for at in range(4, 17)]),)))
        rows.extend([(0, (("either", ("go", 0, 4), ("go", 1, 4)),))] * 13)
        rows.extend([(0, (NO,))] * 7)
        machine = ("machine", (), tuple(rows))
        self.assertEqual(chosen_by_the_words(machine), 2000)
        self.many(2000, chosen, machine)
        rows[3] = (0, (NO,))
        self.assertEqual(chosen_by_the_words(("machine", (), tuple(rows))), 400)
        self.many(400, chosen, ("machine", (), tuple(rows)))

    def test_errors(self):
        for thing in junk_but():
            self.fails(BadMachine, chosen, thing)
