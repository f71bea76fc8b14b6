"""Modules that are there to be fast, each against what it stands for: leading, usefulness, folding, ranking, covering."""

import itertools
import time

from allboughs.covering import covers_of, worth_of
from allboughs.errors import TooMany
from allboughs.folding import folded, unfolded
from allboughs.histories import first, led, runners
from allboughs.leading import START, Leader
from allboughs.machines import met_rows, press, press_plain, press_ranked, plain_rows
from allboughs.ranking import coming_back, ranks_anew
from allboughs.building import combined, combined_plain, joining, meeting
from allboughs.choices import as_machine, machine_of_tidied, tidied
from allboughs.hiding import hidden, hidden_of
from allboughs.models import models
from allboughs.picking import Picking
from allboughs.pruning import pruned
from allboughs.usefulness import picked_pairs
from tests.judging import has_round
from tests.support import Case, dice, held, kept_spots, some_choices, some_condition, some_machine, some_step


def masked(ranks, history):
    """A history as the module leading tells it."""
    odd = sorted({rank for rank in ranks if rank % 2})
    nests = []
    for home, lot in history[1]:
        nests.append((home, sum(1 << (state * len(odd) + odd.index(limit)) for state, limit in lot)))
    return (history[0], tuple(nests))


def rings(ranks, goals, rank):
    """For each state the states of its ring, through ranks that are not above a rank, by the words of [26]."""
    inside = [state for state in range(len(ranks)) if ranks[state] <= rank]

    def reached(state):
        met, todo = set(), [goal for goal in goals[state] if goal in inside]
        while todo:
            at = todo.pop()
            if at not in met:
                met.add(at)
                todo.extend(goal for goal in goals[at] if goal in inside)
        return met

    ahead = {state: reached(state) for state in inside}
    return {state: {other for other in ahead[state] if state in ahead[other]} for state in inside}


def ranks_by_the_words(ranks, goals):
    """Ranks told anew, by the words of [26]."""
    told = {}
    for rank in sorted(set(ranks)):
        around = rings(ranks, goals, rank)
        for state in [state for state in range(len(ranks)) if ranks[state] == rank]:
            if not around[state]:
                told[state] = 0
            else:
                highest = max([told[other] for other in around[state] if ranks[other] < rank], default=0)
                told[state] = highest if highest % 2 == rank % 2 else highest + 1
    return [told[state] for state in range(len(ranks))]


def covers_by_the_words(ranks, lists):
    """The greatest relation of [46]: pairs (p, q) such that p covers q."""
    many = range(len(ranks))
    pairs = {(p, q) for p in many for q in many if worth_of(ranks[p]) >= worth_of(ranks[q])}
    while True:
        left = {
            (p, q) for p, q in pairs
            if all(any((one, left) in pairs and (other, right) in pairs for one, other in mine)
                   for mine, theirs in zip(lists[p], lists[q]) for left, right in theirs)}
        if left == pairs:
            return pairs
        pairs = left


class Histories(Case):
    def test_led_alike(self):
        chance = dice(680)
        nests = 0
        for _ in range(300):
            states = chance.randint(1, 6)
            ranks = tuple(chance.randrange(7) for _ in range(states))
            leader = Leader(ranks)
            self.assertEqual(leader.many, len(runners(ranks)))
            history, told = first(ranks), START
            for _ in range(12):
                step = some_step(chance, states, chance.choice((0.3, 0.5)))
                history, rank = led(ranks, history, step)
                moves = [leader.move([goal for one, goal in step if one == state]) for state in told[0]]
                told, other = leader.lead_on(told, moves)
                self.assertEqual(other, rank)
                self.assertEqual(told, masked(ranks, history))
                nests = max(nests, len(history[1]))
        self.assertGreater(nests, 3)


class States(Case):
    def test_useful_states_and_pairs(self):
        chance = dice(681)
        seen = [0, 0]
        for _ in range(2500):
            many = chance.randint(1, 7)
            ranks = [chance.randrange(6) for _ in range(many)]
            pairs = list(itertools.product(range(many), repeat=2))
            options = [sorted(chance.sample(pairs, chance.randint(0, min(4, len(pairs))))) for _ in range(many)]
            told = picked_pairs(ranks, options)
            self.assertEqual([pair is not None for pair in told], Picking(ranks, options).wins)
            useful = kept_spots(
                range(many), lambda state: ranks[state], lambda state, lot: any(one in lot and other in lot for one, other in options[state]))
            self.assertEqual({state for state, pair in enumerate(told) if pair is not None}, useful)
            for state in range(many):
                seen[state in useful] += 1
                if state in useful:
                    self.assertIn(told[state], options[state])
            self.assertFalse(has_round(lambda state: ranks[state], {state: told[state] for state in useful}, 1))
        self.assertGreater(min(seen), 1000)

    def test_many_pairs(self):
        """With many pairs the game is settled in another way."""
        chance = dice(682)
        many = 200
        ranks = [chance.randrange(4) for _ in range(many)]
        options = [sorted({(chance.randrange(many), chance.randrange(many)) for _ in range(120)}) for _ in range(many)]
        self.assertGreater(sum(len(pairs) for pairs in options), 20000)
        start = time.time()
        told = picked_pairs(ranks, options)
        fewer = [pairs[:90] for pairs in options]
        self.assertEqual([pair is not None for pair in picked_pairs(ranks, fewer)], Picking(ranks, fewer).wins)
        self.assertEqual([pair is not None for pair in told], Picking(ranks, options).wins)
        self.assertLess(time.time() - start, 10)

    def test_ranks_told_anew(self):
        chance = dice(683)
        for _ in range(1500):
            many = chance.randint(1, 8)
            ranks = [chance.randrange(chance.choice((2, 8))) for _ in range(many)]
            goals = [[chance.randrange(many) for _ in range(chance.randint(0, 3))] for _ in range(many)]
            self.assertEqual(ranks_anew(ranks, goals), ranks_by_the_words(ranks, goals))
            around = rings([0] * many, goals, 0)
            self.assertEqual(coming_back(goals), sum(1 << state for state in range(many) if around[state]))

    def test_covers(self):
        chance = dice(684)
        met = 0
        for _ in range(300):
            choices = some_choices(chance, chance.choice(((), ("x",))), chance.randint(1, 5), 3, chance.choice((2, 5, 18)))
            ranks, lists = [rank for rank, _ in choices[2]], [row for _, row in choices[2]]
            pairs = covers_by_the_words(ranks, lists)
            told = covers_of(ranks, lists)
            self.assertEqual({(p, q) for q, mask in enumerate(told) for p in range(len(ranks)) if mask >> p & 1}, pairs)
            met += len(pairs) > len(ranks)
        self.assertGreater(met, 100)

    def test_folds(self):
        chance = dice(685)
        fewer = 0
        for _ in range(300):
            letters = 2 ** chance.randint(0, 3)
            rows = [(at, tuple(chance.randrange(2) for _ in range(letters))) for at in range(chance.randint(1, 3))]
            less, places = folded(rows)
            fewer += len(less[0][1]) < letters
            self.assertEqual(unfolded(less, places), rows)
            columns = list(zip(*[row for _, row in less]))
            self.assertEqual(len(set(columns)), len(columns))
        self.assertGreater(fewer, 50)


class Machines(Case):
    def test_pressed_at_once(self):
        """Of plain conditions, of ranks told anew, of two machines joined: always what pressed tells."""
        chance = dice(686)
        for _ in range(400):
            scope = chance.choice(((), ("x",), ("x", "y")))
            one, other = [some_machine(chance, scope, chance.randint(1, 4), 5, 3) for _ in range(2)]
            told = press(scope, one[2], 0)
            self.assertEqual(press_plain(scope, plain_rows(one[2]), 0), told)
            self.assertEqual(press_ranked(scope, told[2]), told)
            self.assertEqual(met_rows(told[2], 0)[0], list(range(len(told[2]))))
            for word, function in (("both", meeting), ("either", joining)):
                expected = function(one, other)
                pressed = [press(scope, machine[2], 0) for machine in (one, other)]
                self.assertEqual(combined(word, *pressed), expected)
                self.assertEqual(combined_plain(word, *pressed), expected)
                self.assertEqual(function(*pressed), expected)

    def test_tidied_choices(self):
        chance = dice(687)
        for _ in range(300):
            scope = chance.choice((("x",), ("x", "y")))
            choices = some_choices(chance, scope, chance.randint(1, 5), 5, 3)
            told = tidied(choices)
            self.assertEqual(machine_of_tidied(told), as_machine(told))
            for name in scope:
                self.assertEqual(hidden_of(told, name), hidden(told, name))
            again = pruned(choices)
            self.assertEqual(machine_of_tidied(again), as_machine(again))
            self.assertEqual(hidden_of(again, "x"), hidden(again, "x"))

    def test_models(self):
        chance = dice(688)
        for _ in range(400):
            condition = some_condition(chance, 3, 4)
            try:
                told = models(condition)
            except TooMany:
                continue
            lots = [lot for many in range(7) for lot in itertools.combinations([(way, state) for way in (0, 1) for state in range(3)], many)]
            fine = [lot for lot in lots if held(condition, lambda way, state: (way, state) in lot)]
            least = tuple(sorted(lot for lot in fine if not any(set(other) < set(lot) for other in fine)))
            self.assertEqual(told, least)
