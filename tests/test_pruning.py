"""Point [46], with the examples of [48]."""

import itertools

from allboughs.choices import as_machine, is_choices, tidied
from allboughs.chosen import chosen
from allboughs.errors import BadChoices, TooMany
from allboughs.hiding import hidden
from allboughs.pruning import pruned
from tests.support import Case, choices_let, dice, junk_but, some_choices, some_machine, some_wood_of, useful_states
from tests.test_choices import C

SEQUENCE = [*range(301, 0, -2), *range(0, 301, 2)]


def ranks_anew(rows):
    """The ranks of states told anew, by the words of [26]."""
    ways = [{state for pairs in lists for pair in pairs for state in pair} for _, lists in rows]
    ranks = [rank for rank, _ in rows]
    told = {}
    for q in sorted(range(len(rows)), key=lambda state: ranks[state]):
        ring = [r for r in beyond(ways, q, ranks, ranks[q]) if q in beyond(ways, r, ranks, ranks[q])]
        if not ring:
            told[q] = 0
            continue
        h = max([told[r] for r in ring if ranks[r] < ranks[q]], default=0)
        told[q] = h if h % 2 == ranks[q] % 2 else h + 1
    return [told[q] for q in range(len(rows))]


def beyond(ways, q, ranks, most):
    """The states to which one comes from q by goes through states of no greater ranks."""
    met, todo = set(), [q]
    while todo:
        for r in ways[todo.pop()]:
            if ranks[r] <= most and r not in met:
                met.add(r)
                todo.append(r)
    return met


def covering(rows):
    """The greatest relation of [46]: the pairs (p, q) of which p covers q."""
    place = SEQUENCE.index
    held = {(p, q) for p, (one, _) in enumerate(rows) for q, (other, _) in enumerate(rows) if place(one) >= place(other)}
    while True:
        fresh = set()
        for p, q in held:
            if all(any((one, left) in held and (other, right) in held for one, other in mine)
                   for mine, theirs in zip(rows[p][1], rows[q][1]) for left, right in theirs):
                fresh.add((p, q))
        if fresh == held:
            return held
        held = fresh


def second_step(rows):
    """The second step of [46]; states that go leave a gap."""
    states = sorted(rows)
    numbers = {state: at for at, state in enumerate(states)}
    close = [(rows[q][0], [[(numbers[l], numbers[r]) for l, r in pairs] for pairs in rows[q][1]]) for q in states]
    held = {(states[p], states[q]) for p, q in covering(close)}
    stands = {q: min(p for p in states if (p, q) in held and (q, p) in held) for q in states}
    told = {}
    for q in states:
        if stands[q] == q:
            lists = []
            for pairs in rows[q][1]:
                fewer = {(stands[l], stands[r]) for l, r in pairs}
                lists.append(tuple(sorted(
                    (l, r) for l, r in fewer
                    if not any((one, l) in held and (other, r) in held for one, other in fewer - {(l, r)}))))
            told[q] = (rows[q][0], tuple(lists))
    return told


def third_step(rows):
    """The third step of [46]."""
    states = sorted(rows)
    numbers = {state: at for at, state in enumerate(states)}
    close = [(rows[q][0], [[(numbers[l], numbers[r]) for l, r in pairs] for pairs in rows[q][1]]) for q in states]
    ranks = dict(zip(states, ranks_anew(close)))
    ways = [{state for pairs in lists for pair in pairs for state in pair} for _, lists in close]
    back = {q for q in states if numbers[q] in beyond(ways, numbers[q], [0] * len(states), 0)}
    told = {}
    for q in states:
        same = [ranks[p] for p in back if rows[p][1] == rows[q][1]]
        told[q] = (min(same) if same and q not in back else ranks[q], rows[q][1])
    return told


def pruned_by_the_words(choices):
    """What [46] says, step by step."""
    _, scope, rows = choices
    rows = dict(enumerate(rows))
    while True:
        ahead = rows
        states = sorted(rows)
        numbers = {state: at for at, state in enumerate(states)}
        close = tuple(
            (rows[q][0], tuple(tuple((numbers[l], numbers[r]) for l, r in pairs) for pairs in rows[q][1])) for q in states)
        useful = {states[at] for at in useful_states(("choices", scope, close))}
        if 0 not in useful:
            return ("choices", scope, ((0, ((),) * 2 ** len(scope)),))
        rows = {q: (rank, tuple(tuple(pair for pair in pairs if useful >= set(pair)) for pairs in lists))
                for q, (rank, lists) in rows.items()}
        rows = third_step(second_step(rows))
        if rows == ahead:
            break
    return tidied(("choices", scope, close))


def counts(choices):
    """How many states there are of each rank with so many pairs in each list."""
    return sorted((rank, [len(pairs) for pairs in lists]) for rank, lists in choices[2])


def differ_in_numbers_alone(one, other):
    """Whether two choices are the same but for the numbers of states."""
    if one[1] != other[1] or len(one[2]) != len(other[2]):
        return False
    rows = [*one[2], *[(rank, tuple(tuple((l + len(one[2]), r + len(one[2])) for l, r in pairs) for pairs in lists))
                       for rank, lists in other[2]]]
    marks = [0] * len(rows)
    while True:
        signs = [(mark, rank, tuple(tuple(sorted((marks[l], marks[r]) for l, r in pairs)) for pairs in lists))
                 for mark, (rank, lists) in zip(marks, rows)]
        known = sorted(set(signs))
        fresh = [known.index(sign) for sign in signs]
        if fresh == marks:
            break
        marks = fresh
    mine, theirs = marks[:len(one[2])], marks[len(one[2]):]
    return len(set(mine)) == len(mine) and sorted(mine) == sorted(theirs) and mine[0] == theirs[0]


def many_times(chance, choices):
    """The choices with some states standing several times, any of these in the pairs."""
    many = len(choices[2])
    twins = {q: [q] for q in range(many)}
    rows = [None] * many
    for _ in range(chance.randint(1, 3)):
        twins[chance.randrange(many)].append(len(rows))
        rows.append(None)
    for q, numbers in twins.items():
        for number in numbers:
            lists = []
            for pairs in choices[2][q][1]:
                told = set()
                for left, right in pairs:
                    for _ in range(chance.randint(1, 2)):
                        told.add((chance.choice(twins[left]), chance.choice(twins[right])))
                lists.append(tuple(sorted(told)))
            rows[number] = (choices[2][q][0], tuple(lists))
    return ("choices", choices[1], tuple(rows))


class ByHand(Case):
    def test_by_hand(self):
        self.assertEqual(pruned(hidden(C, "x")), ("choices", (), ((0, (((0, 0),),)),)))
        self.assertEqual(pruned(choices=chosen(as_machine(C))), C)
        self.assertEqual(pruned(C), C)

    def test_no_wood(self):
        for scope in ((), ("x",), ("a", "b", "c")):
            told = ("choices", scope, ((0, ((),) * 2 ** len(scope)),))
            many = 2 ** len(scope)
            self.assertEqual(pruned(("choices", scope, ((7, (((0, 0), (0, 1), (1, 0)),) * many), (2, ((),) * many)))), told)
            self.assertEqual(pruned(told), told)

    def test_pairs_with_states_of_no_use_go(self):
        rows = ((2, (((0, 1), (1, 0), (2, 2)),)), (4, ((),)), (2, (((0, 2), (1, 2)),)))
        self.assertEqual(pruned(("choices", (), rows)), ("choices", (), ((0, (((0, 0),),)),)))

    def test_the_first_of_those_that_cover_one_another(self):
        rows = ((0, (((1, 2),), ())), (0, ((), ((3, 3),))), (0, ((), ((1, 1), (4, 4)))), (0, ((), ((2, 2),))), (1, ((), ((2, 4),))))
        self.assertEqual(pruned(("choices", ("x",), rows)), ("choices", ("x",), ((0, (((1, 1),), ())), (0, ((), ((1, 1),))))))

    def test_order_of_worth(self):
        def bound(one, other):
            return ("choices", ("x",), ((0, (((1, 1), (2, 2)), ())), (one, (((1, 1),), ())), (other, (((2, 2),), ()))))

        for one, other in ((4, 2), (2, 0), (300, 298)):
            told = pruned(bound(one, other))
            self.assertEqual(told, ("choices", ("x",), ((0, (((0, 0),), ())),)))

    def test_who_does_not_come_back(self):
        rows = ((3, (((1, 1),),)), (2, (((1, 1),),)))
        self.assertEqual(pruned(("choices", (), rows)), ("choices", (), ((0, (((0, 0),),)),)))
        rows = ((3, (((1, 1),), ())), (2, (((1, 1),), ((1, 1),))))
        self.assertEqual(pruned(("choices", ("x",), rows)), ("choices", ("x",), ((0, (((1, 1),), ())), (0, (((1, 1),), ((1, 1),))))))


class Heart(Case):
    def test_by_the_words(self):
        chance = dice(140)
        for _ in range(400):
            scope = chance.choice(((), ("x",), ("x",)))
            choices = some_choices(chance, scope, chance.randint(1, 6), chance.choice((2, 3, 5)), chance.randint(1, 4))
            self.assertEqual(pruned(choices), pruned_by_the_words(choices), choices)

    def test_what_is_chosen_by_the_words(self):
        chance = dice(141)
        met = 0
        for _ in range(120):
            machine = some_machine(chance, ("x",), chance.randint(2, 4), 4)
            try:
                choices = chosen(machine)
            except TooMany:
                continue
            if 4 < len(choices[2]) < 30:
                met += 1
                self.assertEqual(pruned(choices), pruned_by_the_words(choices))
        self.assertGreater(met, 10)

    def test_it_lets_by_the_same(self):
        chance = dice(142)
        seen = [0, 0]
        for _ in range(250):
            scope = chance.choice(((), ("x",)))
            choices = some_choices(chance, scope, chance.randint(1, 5), 5, 3)
            told = pruned(choices)
            self.assertTrue(is_choices(told))
            self.assertLessEqual(len(told[2]), len(choices[2]))
            for _ in range(3):
                wood = some_wood_of(chance, scope, 3)
                fine = choices_let(choices, wood)
                self.assertEqual(choices_let(told, wood), fine)
                seen[fine] += 1
        self.assertGreater(min(seen), 100)

    def test_pruned_again_it_has_as_many(self):
        chance = dice(143)
        for _ in range(300):
            choices = some_choices(chance, ("x",), chance.randint(1, 7), 5, 3)
            told = pruned(choices)
            again = pruned(told)
            self.assertEqual(counts(again), counts(told))
            self.assertTrue(differ_in_numbers_alone(again, told))

    def test_never_stuck(self):
        chance = dice(144)
        met = 0
        for _ in range(300):
            choices = some_choices(chance, ("x",), chance.randint(1, 5), 4, 2)
            if 0 in useful_states(choices):
                met += 1
                for _, lists in pruned(choices)[2]:
                    self.assertTrue(any(lists))
        self.assertGreater(met, 80)

    def test_states_that_stand_several_times(self):
        chance = dice(145)
        for _ in range(300):
            choices = some_choices(chance, ("x",), chance.randint(1, 5), 5, 3)
            wide = many_times(chance, choices)
            self.assertTrue(differ_in_numbers_alone(pruned(wide), pruned(choices)), (choices, wide))

    def test_the_judge_of_numbers(self):
        one = ("choices", (), ((0, (((1, 2),),)), (1, (((0, 0),),)), (2, (((1, 1),),))))
        other = ("choices", (), ((0, (((2, 1),),)), (2, (((2, 2),),)), (1, (((0, 0),),))))
        self.assertTrue(differ_in_numbers_alone(one, other))
        self.assertFalse(differ_in_numbers_alone(one, ("choices", (), ((0, (((1, 2),),)), (1, (((0, 0),),)), (2, (((1, 2),),))))))


class Errors(Case):
    def test_errors(self):
        for thing in junk_but():
            self.fails(BadChoices, pruned, thing)

    def test_400_states(self):
        rows = [(0, (((min(399, at + 1), 0), (399, 399)) if at < 399 else ((0, 0),),)) for at in range(400)]
        rows = tuple((rank, (tuple(sorted(set(pairs))),)) for rank, (pairs,) in rows)
        self.assertEqual(pruned(("choices", (), rows)), ("choices", (), ((0, (((0, 0),),)),)))
        pairs = tuple(itertools.product(range(20), repeat=2))
        self.assertEqual(len(pruned(("choices", (), ((0, (pairs,)),) * 20))[2]), 1)
