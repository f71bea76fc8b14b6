"""Modules that are there to be fast, each against what it stands for: leading, usefulness, drafts, ranking, covering .."""

import itertools
import time

from allboughs.briefs import brief_list, flipped_brief, goes_in, mask_in, moved_brief, whole
from allboughs.building import contrary, joint_draft, joining, meeting, reached_draft, widened, widened_draft
from allboughs.choices import as_machine, choices_draft, machine_draft, tidied, told_choices
from allboughs.chosen import chosen, chosen_draft
from allboughs.compiling import draft_of_atom, machine_of
from allboughs.conditions import flipped, is_condition, moved, plain
from allboughs.covering import FEW_PAIRS, Few, Many, is_idle, worth_of
from allboughs.drafts import MachineDraft
from allboughs.errors import TooMany
from allboughs.folding import folded, unfolded
from allboughs.formulas import free_names
from allboughs.hiding import hidden, hidden_draft
from allboughs.histories import first, led, runners
from allboughs.leading import Leader
from allboughs.machines import drafted, plain_rows, press, press_plain, pressed, told_machine
from allboughs.models import masks_of_models, models
from allboughs.picking import Picking
from allboughs.playing import Board
from allboughs.pruning import merged, pruned, pruned_draft
from allboughs.ranking import circles, ranks_anew
from allboughs.regions import Arena
from allboughs.shorts import hand
from allboughs.usefulness import picked_pairs, useful_mask
from allboughs.winning import keeper_wins
from tests.judging import has_round
from tests.lots_of_formulas import all_shorts
from tests.support import Case, dice, held, kept_spots, some_choices, some_condition, some_machine, some_step, some_wood_of


def masked(ranks, history):
    """A history as the module leading tells it."""
    odd = sorted({rank for rank in ranks if rank % 2})
    many = len(ranks)
    fields = sum(1 << (many - 1 - state) for state in history[0])
    for at, (_, lot) in enumerate(history[1]):
        for state, limit in lot:
            fields |= 1 << (2 * many * (1 + at * len(odd) + odd.index(limit)) + many - 1 - state)
    return (tuple(home for home, _ in history[1]), fields)


def masks_of_goals(goals):
    """For each state the mask of its goals."""
    return [sum(1 << goal for goal in set(row)) for row in goals]


def rings(ranks, goals, rank):
    """For each state the states of its ring, through ranks that are not above a rank, by the words of [26]."""
    inside = [state for state in range(len(ranks)) if ranks[state] <= rank]

    def reached(state):
        met, todo = set(), [goal for goal in goals[state] if goal in inside]
        while todo:
            at = todo.pop()
            if at not in met:
                met.add(at)
                todo.extend(goal for goal in goals[at] if goal in inside)
        return met

    ahead = {state: reached(state) for state in inside}
    return {state: {other for other in ahead[state] if state in ahead[other]} for state in inside}


def ranks_by_the_words(ranks, goals):
    """Ranks told anew, by the words of [26]."""
    told = {}
    for rank in sorted(set(ranks)):
        around = rings(ranks, goals, rank)
        for state in [state for state in range(len(ranks)) if ranks[state] == rank]:
            if not around[state]:
                told[state] = 0
            else:
                highest = max([told[other] for other in around[state] if ranks[other] < rank], default=0)
                told[state] = highest if highest % 2 == rank % 2 else highest + 1
    return [told[state] for state in range(len(ranks))]


def covers_by_the_words(ranks, lists):
    """The greatest relation of [46]: pairs (p, q) such that p covers q."""
    many = range(len(ranks))
    pairs = {(p, q) for p in many for q in many if worth_of(ranks[p]) >= worth_of(ranks[q])}
    while True:
        left = {
            (p, q) for p, q in pairs
            if all(any((one, left) in pairs and (other, right) in pairs for one, other in mine)
                   for mine, theirs in zip(lists[p], lists[q]) for left, right in theirs)}
        if left == pairs:
            return pairs
        pairs = left


class Histories(Case):
    def test_led_alike(self):
        chance = dice(680)
        nests = 0
        for _ in range(300):
            states = chance.randint(1, 6)
            ranks = tuple(chance.randrange(7) for _ in range(states))
            leader = Leader(ranks)
            self.assertEqual(leader.many, len(runners(ranks)))
            history, told = first(ranks), leader.start
            for _ in range(12):
                self.assertEqual(told, masked(ranks, history))
                self.assertEqual(tuple(state for state, _ in leader.reached(told[1])), history[0])
                step = some_step(chance, states, chance.choice((0.3, 0.5)))
                history, rank = led(ranks, history, step)
                moves = [leader.mask([goal for one, goal in step if one == state]) for state in range(states)]
                told, other = leader.lead_on(told, moves)
                self.assertEqual(other, rank)
                nests = max(nests, len(history[1]))
        self.assertGreater(nests, 3)


class States(Case):
    def test_useful_states_and_pairs(self):
        chance = dice(681)
        seen = [0, 0]
        for _ in range(2500):
            many = chance.randint(1, 7)
            ranks = [chance.randrange(6) for _ in range(many)]
            pairs = list(itertools.product(range(many), repeat=2))
            options = [sorted(chance.sample(pairs, chance.randint(0, min(4, len(pairs))))) for _ in range(many)]
            told = picked_pairs(ranks, options)
            self.assertEqual([pair is not None for pair in told], Picking(ranks, options).wins)
            useful = kept_spots(
                range(many), lambda state: ranks[state], lambda state, lot: any(one in lot and other in lot for one, other in options[state]))
            self.assertEqual({state for state, pair in enumerate(told) if pair is not None}, useful)
            for state in range(many):
                seen[state in useful] += 1
                if state in useful:
                    self.assertIn(told[state], options[state])
            self.assertFalse(has_round(lambda state: ranks[state], {state: told[state] for state in useful}, 1))
        self.assertGreater(min(seen), 1000)

    def test_many_pairs(self):
        """With many pairs the game is settled in another way."""
        chance = dice(682)
        many = 200
        ranks = [chance.randrange(4) for _ in range(many)]
        options = [sorted({(chance.randrange(many), chance.randrange(many)) for _ in range(120)}) for _ in range(many)]
        self.assertGreater(sum(len(pairs) for pairs in options), 20000)
        start = time.time()
        told = picked_pairs(ranks, options)
        fewer = [pairs[:90] for pairs in options]
        self.assertEqual([pair is not None for pair in picked_pairs(ranks, fewer)], Picking(ranks, fewer).wins)
        self.assertEqual([pair is not None for pair in told], Picking(ranks, options).wins)
        self.assertLess(time.time() - start, 10)

    def test_useful_states_rank_by_rank_and_at_once(self):
        """With few ranks, with many of them, and with many pairs: always those that the picker wins from."""
        chance = dice(689)
        for _ in range(2500):
            many, lists = chance.randint(1, 7), chance.randint(1, 6)
            ranks = [chance.randrange(chance.choice((1, 2, 3, 4, 7))) for _ in range(many)]
            pairs = [[(chance.randrange(many), chance.randrange(many)) for _ in range(chance.randint(0, 3))] for _ in range(lists)]
            rows = [[chance.randrange(lists) for _ in range(2)] for _ in range(many)]
            options = [[pair for at in row for pair in pairs[at]] for row in rows]
            told = useful_mask(
                ranks, [1 << row[0] | 1 << row[1] for row in rows], [[1 << one | 1 << other for one, other in row] for row in pairs])
            wins = Picking(ranks, options).wins
            self.assertEqual([bool(told >> state & 1) for state in range(many)], wins)

    def test_ranks_told_anew(self):
        chance = dice(683)
        for _ in range(1500):
            many = chance.randint(1, 8)
            ranks = [chance.randrange(chance.choice((2, 8))) for _ in range(many)]
            goals = [[chance.randrange(many) for _ in range(chance.randint(0, 3))] for _ in range(many)]
            masks = masks_of_goals(goals)
            self.assertEqual(ranks_anew(ranks, masks), ranks_by_the_words(ranks, goals))
            around = rings([0] * many, goals, 0)
            for state in range(many):
                self.assertEqual(circles(masks, state, (1 << many) - 1), bool(around[state]))

    def test_ranks_of_many_states(self):
        chance = dice(690)
        for _ in range(40):
            many = chance.randint(31, 45)
            ranks = [chance.randrange(5) for _ in range(many)]
            goals = [[chance.randrange(many) for _ in range(chance.randint(0, 2))] for _ in range(many)]
            self.assertEqual(ranks_anew(ranks, masks_of_goals(goals)), ranks_by_the_words(ranks, goals))

    def test_covers(self):
        """Few states and many are looked at in two ways; few are left as they are once nothing is to be done by them."""
        chance = dice(684)
        met = idle = 0
        for _ in range(400):
            choices = some_choices(chance, chance.choice(((), ("x",))), chance.randint(1, 6), 3, chance.choice((1, 2, 5, 18)))
            ranks, lists = [rank for rank, _ in choices[2]], [row for _, row in choices[2]]
            pairs = covers_by_the_words(ranks, lists)
            draft = choices_draft(choices)
            many = Many(draft.ranks, draft.columns, draft.lists)
            few = Few(draft.ranks, draft.columns, draft.lists)
            told = [{(p, q) for q, mask in enumerate(found.covers) for p in range(len(ranks)) if mask >> p & 1} for found in (many, few)]
            self.assertEqual(told[0], pairs)
            self.assertEqual(few.idle, is_idle(many.covers, draft.lists))
            self.assertTrue(told[1] >= pairs)
            if not few.idle:
                self.assertEqual(told[1], pairs)
                least = [min(p for p in range(len(ranks)) if (p, q) in pairs and (q, p) in pairs) for q in range(len(ranks))]
                for row in draft.lists:
                    self.assertEqual(few.list_left(row, least), many.list_left(row, least))
            met += len(pairs) > len(ranks)
            idle += few.idle
        self.assertGreater(met, 100)
        self.assertGreater(min(idle, 400 - idle), 100)

    def test_covers_of_many_pairs(self):
        """With very many pairs covers are told letter by letter."""
        chance = dice(695)
        for _ in range(4):
            choices = some_choices(chance, ("x",), 45, 2, 60)
            doubled = ("choices", ("x",), choices[2] + tuple((rank, lists) for rank, lists in choices[2][:4]))
            draft = choices_draft(doubled)
            many = Many(draft.ranks, draft.columns, draft.lists)
            few = Few(draft.ranks, draft.columns, draft.lists)
            self.assertFalse(few.idle)
            self.assertEqual(many.covers, few.covers)
            self.assertGreater(len(many.bits), FEW_PAIRS)

    def test_merged_states(self):
        """Of states that cover one another the least one stays, of pairs those that no other one of the list covers."""
        chance = dice(691)
        fewer = 0
        for _ in range(300):
            choices = some_choices(chance, chance.choice(((), ("x",))), chance.choice((2, 3, 4, 5, 13)), 3, chance.choice((1, 3)))
            draft = choices_draft(choices)
            pairs = covers_by_the_words(draft.ranks, [row for _, row in choices[2]])
            states = range(len(draft.ranks))
            least = [min(p for p in states if (p, q) in pairs and (q, p) in pairs) for q in states]
            kept = [q for q in states if least[q] == q]
            expected = []
            for q in kept:
                row = []
                for told in choices[2][q][1]:
                    told = {(least[one], least[other]) for one, other in told}
                    row.append({
                        pair for pair in told
                        if not any(other != pair and (other[0], pair[0]) in pairs and (other[1], pair[1]) in pairs for other in told)})
                expected.append((draft.ranks[q], [sorted((kept.index(one), kept.index(other)) for one, other in told) for told in row]))
            ranks, columns, lists = merged(draft.ranks, draft.columns, draft.lists)
            found = []
            for at, rank in enumerate(ranks):
                found.append((rank, [list(lists[columns[place][at]]) for place in draft.places]))
            self.assertEqual(found, expected)
            fewer += len(kept) < len(draft.ranks)
        self.assertGreater(fewer, 50)

    def test_folds(self):
        chance = dice(685)
        fewer = 0
        for _ in range(300):
            letters = 2 ** chance.randint(0, 3)
            rows = [(at, tuple(chance.randrange(2) for _ in range(letters))) for at in range(chance.randint(1, 3))]
            less, places = folded(rows)
            fewer += len(less[0][1]) < letters
            self.assertEqual(unfolded(less, places), rows)
            columns = list(zip(*[row for _, row in less]))
            self.assertEqual(len(set(columns)), len(columns))
        self.assertGreater(fewer, 50)


class Machines(Case):
    def test_drafts_of_machines(self):
        """Of plain conditions, of two machines joined, of a wider scope: always what the functions of machines tell."""
        chance = dice(686)
        for _ in range(400):
            scope = chance.choice(((), ("x",), ("x", "y")))
            one, other = [some_machine(chance, scope, chance.randint(1, 4), 5, 3) for _ in range(2)]
            told = pressed(one)
            self.assertEqual(told_machine(press(scope, one[2], 0)), told)
            self.assertEqual(told_machine(press_plain(scope, plain_rows(one[2]), 0)), told)
            self.assertEqual(told_machine(drafted(scope, told[2], 0)), told)
            self.assertEqual(told_machine(reached_draft(told)), told)
            wider = ("w", *scope)
            self.assertEqual(told_machine(widened_draft(reached_draft(told), wider)), widened(told, wider))
            for word, function in (("both", meeting), ("either", joining)):
                drafts = [reached_draft(pressed(machine)) for machine in (one, other)]
                joint = told_machine(joint_draft(word, *drafts))
                self.assertEqual(joint, function(one, other))
                self.assertEqual(function(pressed(one), pressed(other)), joint)

    def test_drafts_of_atoms(self):
        """The drafts drawn by hand are those of the machines of [54], pressed; hands of shorts are pressed already."""
        atoms = [("root", name) for name in ("a", "b")]
        for word in ("sub", "left", "right"):
            atoms.extend((word, one, other) for one in ("a", "b") for other in ("a", "b"))
        for atom in atoms:
            told = told_machine(draft_of_atom(atom, free_names(atom)))
            self.assertEqual(told, pressed(machine_of(atom)), atom)
            self.assertEqual(told, pressed(told), atom)
        for short in all_shorts("x", "y"):
            self.assertEqual(pressed(hand(short)), hand(short))
            self.assertEqual(told_machine(draft_of_atom(short, free_names(short))), hand(short))

    def test_constant_choices(self):
        """Machines of one state that goes on for ever, or nowhere, whatever the letters are."""
        stay, no = ("both", ("go", 0, 0), ("go", 1, 0)), ("no",)
        for row in itertools.product((stay, no), repeat=4):
            machine = ("machine", ("x", "y"), ((0, row),))
            expected = ("choices", ("x", "y"), ((0, tuple(((0, 0),) if one == stay else () for one in row)),))
            self.assertEqual(chosen(machine), expected)
            brief = MachineDraft(("x", "y"), [0], [0, 1, 2, 3], [[0], [1], [2], [3]], [brief_list(((0, 0),) if one == stay else ()) for one in row])
            self.assertEqual(told_choices(chosen_draft(brief)), expected)
            self.assertEqual(told_choices(pruned_draft(chosen_draft(brief))), expected)

    def test_drafts_of_choices(self):
        chance = dice(687)
        for _ in range(300):
            scope = chance.choice((("x",), ("x", "y")))
            choices = some_choices(chance, scope, chance.randint(1, 5), 5, 3)
            for told in (tidied(choices), pruned(choices)):
                draft = choices_draft(told)
                self.assertEqual(told_choices(draft), told)
                self.assertEqual(told_machine(machine_draft(draft)), as_machine(told))
                for name in scope:
                    self.assertEqual(told_choices(hidden_draft(draft, name)), hidden(told, name))

    def test_contraries_of_joined_machines(self):
        """The contrary of two joined by a word is their contraries joined by the other one; so compiling makes it."""
        chance = dice(692)
        for _ in range(300):
            scope = chance.choice(((), ("x",)))
            one, other = [pressed(some_machine(chance, scope, chance.randint(1, 4), 4, 3)) for _ in range(2)]
            self.assertEqual(contrary(meeting(one, other)), joining(contrary(one), contrary(other)))
            self.assertEqual(contrary(joining(one, other)), meeting(contrary(one), contrary(other)))
            flat = pressed(("machine", scope, tuple((0, row) for _, row in one[2])))
            self.assertEqual(contrary(contrary(flat)), flat)

    def test_brief_conditions(self):
        """What is told briefly is changed as the conditions are for which it stands."""
        chance = dice(693)

        def some_brief(deepest):
            word = chance.choice(("any", "each", "go", "both", "either") if deepest > 1 else ("any", "each", "go"))
            if word == "go":
                return (word, chance.randrange(2), chance.randrange(3))
            if word in ("any", "each"):
                return (word, tuple(chance.sample(list(itertools.product(range(3), repeat=2)), chance.randint(1, 4))))
            return (word, some_brief(deepest - 1), some_brief(deepest - 1))

        for _ in range(500):
            brief = some_brief(3)
            condition = whole(brief)
            self.assertTrue(is_condition(condition))
            self.assertEqual(plain(condition), condition)
            numbers = [chance.randrange(5) for _ in range(3)]
            self.assertEqual(whole(moved_brief(brief, numbers)), moved(condition, numbers))
            self.assertEqual(whole(flipped_brief(brief)), flipped(condition))
            self.assertEqual(flipped_brief(flipped_brief(brief)), brief)
            self.assertEqual(goes_in([brief], 0), goes_in([condition], 0))
            self.assertEqual(mask_in(brief), sum(1 << state for state in set(goes_in([condition], 0)[0])))
            self.assertEqual(goes_in([brief], 7), [[state + 7 for state in goes_in([condition], 0)[0]]])
            bits = [[32, 16, 8], [4, 2, 1]]
            told = masks_of_models(brief, bits)
            self.assertEqual(told, masks_of_models(condition, bits))
            lots = [[(way, state) for way in (0, 1) for state in range(3) if mask & bits[way][state]] for mask in told]
            self.assertEqual(tuple(tuple(lot) for lot in lots), models(condition))

    def test_small_games_by_masks(self):
        """Who wins from the first standing, told by masks and by arenas."""
        chance = dice(694)
        seen = [0, 0]
        for _ in range(1500):
            scope = chance.choice(((), ("x",)))
            machine = some_machine(chance, scope, chance.randint(1, 4), 5, 3)
            board = Board(machine, some_wood_of(chance, scope, chance.randint(1, 4)), None)
            winner = Arena(board.sides, board.ranks, board.goals).winners[0]
            self.assertIs(keeper_wins(board.sides, board.ranks, board.goals), winner == 0)
            self.assertIs(board.is_kept(), winner == 0)
            seen[winner] += 1
        self.assertGreater(min(seen), 400)

    def test_models(self):
        chance = dice(688)
        for _ in range(400):
            condition = some_condition(chance, 3, 4)
            try:
                told = models(condition)
            except TooMany:
                continue
            lots = [lot for many in range(7) for lot in itertools.combinations([(way, state) for way in (0, 1) for state in range(3)], many)]
            fine = [lot for lot in lots if held(condition, lambda way, state: (way, state) in lot)]
            least = tuple(sorted(lot for lot in fine if not any(set(other) < set(lot) for other in fine)))
            self.assertEqual(told, least)
