"""Point [28], with what [24] says of models and written, and [26]."""

import itertools
import time

from allboughs.errors import BadMachine
from allboughs.machines import is_machine, pressed
from allboughs.melting import is_likeness, likeness, melted
from allboughs.models import models
from allboughs.playing import lets_by
from tests.judging import wrong_parts
from tests.support import Case, dice, held, junk_but, some_machine, some_wood_of

X = ("x",)
M = ("machine", X, ((1, (("go", 0, 0), ("go", 0, 1))), (2, (("go", 0, 0), ("go", 0, 1)))))
# M with a third state, which stands for the first one as well.
M3 = ("machine", X, (
    (1, (("go", 0, 0), ("go", 0, 1))), (2, (("go", 0, 2), ("go", 0, 1))), (1, (("go", 0, 0), ("go", 0, 1)))))


def go(way, state):
    """A go."""
    return ("go", way, state)


def joined(word, parts):
    """Conditions joined one behind the other."""
    told = parts[-1]
    for part in parts[-2::-1]:
        told = (word, part, told)
    return told


def are_alike(one, other, lot_of):
    """Whether the models of two conditions are alike, if each state is told by its lot: by the words of [28]."""
    mine, theirs = [
        [{(way, lot_of[state]) for way, state in model} for model in models(condition)] for condition in (one, other)]
    return all(any(less <= model for less in theirs) for model in mine) and all(
        any(less <= model for less in mine) for model in theirs)


def good_likeness(machine, lots):
    """Whether lots, each state in just one of them, are a likeness."""
    lot_of = {state: at for at, lot in enumerate(lots) for state in lot}
    for lot in lots:
        for one, other in itertools.combinations(lot, 2):
            (rank, mine), (other_rank, theirs) = machine[2][one], machine[2][other]
            if rank != other_rank or not all(are_alike(a, b, lot_of) for a, b in zip(mine, theirs)):
                return False
    return True


def all_partitions(states):
    """All tuples of lots, in ascending order, such that each state is in just one of them."""
    if not states:
        return [()]
    told = []
    for lots in all_partitions(states[:-1]):
        told.append((*lots, (states[-1],)))
        told.extend((*lots[:at], (*lot, states[-1]), *lots[at + 1:]) for at, lot in enumerate(lots))
    return told


def told_otherwise(condition, chance, new):
    """A condition that holds by the same lots: parts in another sequence, or twice; goals told as one of new."""
    if condition[0] == "go":
        return ("go", condition[1], chance.choice(new[condition[2]]))
    if condition[0] not in ("both", "either"):
        return condition
    parts = [told_otherwise(part, chance, new) for part in condition[1:]]
    if chance.random() < 0.5:
        parts.reverse()
    if chance.random() < 0.3:
        parts.append(told_otherwise(chance.choice(condition[1:]), chance, new))
        return (condition[0], parts[0], (condition[0], parts[1], parts[2]))
    return (condition[0], *parts)


def changed(machine, chance):
    """A machine that is this one but for the sequence of states, states that stand twice, and forms of conditions."""
    rows = machine[2]
    order = list(range(1, len(rows))) + [chance.randrange(len(rows)) for _ in range(chance.randint(0, 3))]
    chance.shuffle(order)
    order.insert(0, 0)
    new = {}
    for at, old in enumerate(order):
        new.setdefault(old, []).append(at)
    told = []
    for old in order:
        rank, conditions = rows[old]
        told.append((rank, tuple(told_otherwise(condition, chance, new) for condition in conditions)))
    return ("machine", machine[1], tuple(told))


def chain(many):
    """A machine of so many states, none of them alike: each leads to the next one, the last one has another rank."""
    rows = []
    for at in range(many):
        behind = min(at + 1, many - 1)
        rows.append((1 if at == many - 1 else 0, (("both", go(0, behind), go(1, behind)),)))
    return ("machine", (), tuple(rows))


def wide(pairs):
    """A condition with 2 ** pairs models: one of two goes for each pair."""
    return joined("both", [("either", go(0, at), go(1, at)) for at in range(pairs)])


class ByHand(Case):
    def test_by_hand(self):
        self.assertEqual(likeness(machine=M3), ((0, 2), (1,)))
        self.assertEqual(melted(machine=M3), M)
        self.assertEqual(likeness(M), ((0,), (1,)))
        self.assertEqual(melted(M), M)
        for lots in (((0, 2), (1,)), ((0,), (1,), (2,))):
            self.assertIs(is_likeness(machine=M3, thing=lots), True)
        for lots in (((1,), (0, 2)), ((0, 2), (1,), ()), ((0, 2),), ((0, 1, 2),), ((0,), (1, 2)), ((0, 2), (1, 2)), ((2, 0), (1,)), ((0, 0, 2), (1,))):
            self.assertIs(is_likeness(M3, lots), False, lots)

    def test_models_that_are_alike(self):
        """What needs more than another model of the same condition counts for nothing."""
        one = ("either", go(0, 0), ("both", go(0, 1), go(1, 0)))
        machine = ("machine", (), ((0, (one,)), (0, (go(0, 1),))))
        self.assertEqual(likeness(machine), ((0, 1),))
        self.assertEqual(melted(machine), ("machine", (), ((0, (go(0, 0),)),)))

    def test_parts_that_stand_twice(self):
        machine = ("machine", (), ((0, (("both", ("either", go(0, 1), go(0, 1)), go(0, 1)),)), (0, (("either", ("yes",), go(1, 0)),))))
        self.assertEqual(melted(machine), ("machine", (), ((0, (go(0, 1),)), (0, (("yes",),)))))
        for condition in (("both", go(1, 0), go(0, 0)), ("both", ("both", go(0, 0), go(1, 0)), go(0, 0))):
            told = melted(("machine", (), ((3, (condition,)),)))
            self.assertEqual(told, ("machine", (), ((1, (("both", go(0, 0), go(1, 0)),)),)))

    def test_states_that_are_not_come_to(self):
        machine = ("machine", (), ((0, (("yes",),)), (5, (go(0, 1),)), (5, (go(0, 2),))))
        self.assertEqual(likeness(machine), ((0,), (1, 2)))
        self.assertEqual(melted(machine), ("machine", (), ((0, (("yes",),)),)))

    def test_a_turn_that_makes_alike_what_was_not(self):
        """Ranks of states that do not come back to themselves are alike once the machine is pressed."""
        machine = ("machine", (), ((0, (("both", go(0, 1), go(1, 2)),)), (3, (go(0, 3),)), (5, (go(0, 3),)), (0, (go(0, 3),))))
        self.assertEqual(likeness(machine), ((0,), (1,), (2,), (3,)))
        self.assertEqual(melted(machine), ("machine", (), ((0, (("both", go(0, 1), go(1, 1)),)), (0, (go(0, 1),)))))

    def test_two_turns_at_least(self):
        """The first turn leaves as many states as there were, but tells ranks anew: then two of them are alike."""
        machine = ("machine", (), ((0, (("both", go(0, 1), go(0, 2)),)), (3, (go(1, 3),)), (5, (go(1, 3),)), (0, (go(0, 3),))))
        self.assertEqual(len(likeness(pressed(machine))), 3)
        self.assertEqual(melted(machine), ("machine", (), ((0, (go(0, 1),)), (0, (go(1, 2),)), (0, (go(0, 2),)))))

    def test_turns_until_one_leaves_all_states(self):
        """The first turn leaves four states, the second one two, the third one a single state."""
        machine = ("machine", (), (
            (3, (go(0, 1),)), (2, (("either", go(0, 1), ("both", go(0, 2), go(1, 0))),)), (1, (go(0, 4),)),
            (1, (("either", go(0, 0), ("either", go(0, 3), go(0, 4))),)), (1, (go(0, 1),))))
        self.assertEqual(melted(machine), ("machine", (), ((0, (go(0, 0),)),)))


class Hearts(Case):
    def test_just_one_coarsest(self):
        chance = dice(540)
        seen = [0, 0]
        for _ in range(150):
            machine = some_machine(chance, chance.choice(((), X)), chance.randint(1, 4), 2, 3)
            told = likeness(machine)
            self.assertTrue(is_likeness(machine, told))
            for lots in all_partitions(tuple(range(len(machine[2])))):
                lots = tuple(sorted(lots))
                fine = good_likeness(machine, lots)
                seen[fine] += 1
                self.assertIs(is_likeness(machine, lots), fine)
                if fine:
                    self.assertTrue(all(any(set(lot) <= set(other) for other in told) for lot in lots))
        self.assertGreater(min(seen), 100)

    def test_melted_lets_by_the_same_woods(self):
        chance = dice(541)
        seen = [0, 0]
        fewer = 0
        for _ in range(400):
            scope = chance.choice(((), X))
            machine = some_machine(chance, scope, chance.randint(1, 4), 3, 3)
            told = melted(machine)
            self.assertTrue(is_machine(told))
            self.assertEqual(pressed(told), told)
            self.assertLessEqual(len(told[2]), len(pressed(machine)[2]))
            fewer += len(told[2]) < len(pressed(machine)[2])
            wood = some_wood_of(chance, scope, chance.randint(1, 3))
            fine = lets_by(machine, wood)
            seen[fine] += 1
            self.assertIs(lets_by(told, wood), fine)
        self.assertGreater(min(seen), 100)
        self.assertGreater(fewer, 8)

    def test_machines_changed_as_told(self):
        chance = dice(542)
        for _ in range(300):
            machine = some_machine(chance, chance.choice(((), X)), chance.randint(1, 4), 3, 3)
            told = melted(machine)
            other = changed(machine, chance)
            self.assertTrue(is_machine(other))
            again = melted(other)
            self.assertEqual(len(again[2]), len(told[2]))
            self.assertEqual(max(rank for rank, _ in again[2]), max(rank for rank, _ in told[2]))

    def test_melted_again_it_has_as_many_states(self):
        chance = dice(543)
        for _ in range(150):
            machine = some_machine(chance, X, 3, 3, 3)
            told = melted(machine)
            self.assertEqual(len(melted(told)[2]), len(told[2]))
            self.assertEqual(len(likeness(told)), len(told[2]))


class Limits(Case):
    def test_models(self):
        """2048 models are too many, wherever they stand, and even if nothing is a likeness."""
        fine = (0, (("yes",),))
        wrong = (0, (wide(11),))
        rows = (fine,) * 10 + (wrong,)
        for machine in (("machine", (), rows), ("machine", (), (wrong,) + (fine,) * 10)):
            self.many(2000, likeness, machine)
            self.many(2000, melted, machine)
            for thing in (None, ((0,),), (tuple(range(11)),)):
                self.many(2000, is_likeness, machine, thing)
        ten = ("machine", (), ((0, (wide(10),)),) + (fine,) * 9)
        self.assertEqual(likeness(ten), ((0,), tuple(range(1, 10))))
        self.assertFalse(is_likeness(ten, None))

    def test_written(self):
        """512 models of 9 goes have more than 1,600 nodes; of 128 of 7 goes there are 128 * 13 + 127."""
        self.many(1600, melted, ("machine", (), ((0, (wide(9),)),) + ((0, (("yes",),)),) * 8))
        self.many(1600, melted, ("machine", (), ((0, (wide(7),)),) + tuple((at, (go(0, at),)) for at in range(6))))
        told = ("machine", (), ((0, (wide(6),)),) + tuple((at % 2, (go(0, at + 1),)) for at in range(5)))
        self.assertTrue(is_machine(melted(told)))
        # The one that is told first comes first.
        both = ("machine", (), ((0, (wide(9),)), (0, (wide(11),))) + ((0, (("yes",),)),) * 9)
        self.many(2000, melted, both)

    def test_soon(self):
        start = time.time()
        self.assertEqual(len(likeness(chain(400))), 400)
        self.assertEqual(len(melted(chain(400))[2]), 400)
        self.assertEqual(len(melted(("machine", (), tuple((0, (go(0, (at * 7 + 1) % 400),)) for at in range(400))))[2]), 1)
        self.assertLess(time.time() - start, 5)
        chance = dice(544)
        machines = [some_machine(chance, X, 4, 3, 3) for _ in range(100)]
        start = time.time()
        for machine in machines:
            melted(machine)
        self.assertLess(time.time() - start, 2)


class Errors(Case):
    def test_errors(self):
        for thing in junk_but():
            self.fails(BadMachine, likeness, thing)
            self.fails(BadMachine, melted, thing)
            self.fails(BadMachine, is_likeness, thing, None)

    def test_any_value(self):
        self.none_of(lambda thing: is_likeness(M3, thing), junk_but())
        self.none_of(lambda thing: is_likeness(M3, thing), wrong_parts(((0, 2), (1,))))
        self.none_of(lambda thing: is_likeness(M3, thing), [
            ((0, 2), (True,)), ((False, 2), (1,)), ((0, 2), (1, 3)), ((0, 2), (-1,)), [(0, 2), (1,)], ([0, 2], (1,)), ((), (0, 2), (1,)),
            ((0, 2), 1), ((0,), (0, 2), (1,)), ((0, 2), (1,), (3,)), ((0, 2), (10 ** 30,))])
