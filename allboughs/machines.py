"""Machines of challenges, and machines pressed: with no states, parts and ranks that they do not need."""

from allboughs.checks import is_headed, is_number, is_row
from allboughs.conditions import MOST_STATES, add_states, is_condition_for, made_plain, moved
from allboughs.errors import BadMachine
from allboughs.folding import folded, unfolded
from allboughs.ranking import ranks_anew
from allboughs.woods import is_scope

RANKS = 301


def is_state(thing, many, states):
    """Whether it is a state of a machine with so many letters and so many states."""
    if not is_row(thing, 2, 2) or not is_number(thing[0], RANKS) or not is_row(thing[1], many, many):
        return False
    return all(is_condition_for(condition, states) for condition in thing[1])


def is_machine(thing):
    """Whether a value of any kind is a machine."""
    if not is_headed(thing, "machine", 3) or not is_scope(thing[1]):
        return False
    rows = thing[2]
    if not is_row(rows, 1, MOST_STATES):
        return False
    return all(is_state(row, 1 << len(thing[1]), len(rows)) for row in rows)


def check_machine(machine):
    """Raise BadMachine for what is no machine."""
    if not is_machine(machine):
        raise BadMachine("not a machine")


def met_rows(rows, start):
    """The states that can be come to from start as a walk meets them, and for each of them those to which it has goes.

    rows may be a list or a dict, of states whose conditions are plain.
    """
    order = [start]
    met = {start: True}
    leads = []
    while len(leads) < len(order):
        found = {}
        for condition in rows[order[len(leads)]][1]:
            add_states(condition, found)
        for state in found:
            if state not in met:
                met[state] = True
                order.append(state)
        leads.append(found)
    return order, leads


def numbered(rows, order):
    """The states in this order, with the goes of their conditions numbered so."""
    kept = [rows[state] for state in order]
    if order == list(range(len(order))):
        return kept
    numbers = {state: number for number, state in enumerate(order)}
    kept, places = folded(kept)
    return unfolded([(rank, [moved(condition, numbers) for condition in row]) for rank, row in kept], places)


def machine_told(scope, ranks, kept):
    """The machine of these ranks and of the conditions of these states."""
    return ("machine", scope, tuple([(rank, tuple(row)) for rank, (_, row) in zip(ranks, kept)]))


def press_plain(scope, rows, start):
    """The pressed machine of states that begins with start, all of whose conditions are plain."""
    order, leads = met_rows(rows, start)
    ranks = [rows[state][0] for state in order]
    if max(ranks) > 0:
        if order != list(range(len(order))):
            numbers = {state: number for number, state in enumerate(order)}
            leads = [[numbers[state] for state in found] for found in leads]
        ranks = ranks_anew(ranks, leads)
    return machine_told(scope, ranks, numbered(rows, order))


def press_ranked(scope, rows):
    """The same for states from 0 on, the ranks of which are told anew already."""
    order = met_rows(rows, 0)[0]
    return machine_told(scope, [rows[state][0] for state in order], numbered(rows, order))


def plain_rows(rows):
    """The states with their conditions made plain."""
    return [(rank, tuple([made_plain(condition) for condition in conditions])) for rank, conditions in rows]


def press(scope, rows, start):
    """The pressed machine of states that begins with start. There may be more of them than a machine has."""
    return press_plain(scope, plain_rows(rows), start)


def pressed(machine):
    """The machine with its conditions made plain, the states that can be come to, and ranks told anew."""
    check_machine(machine)
    return press(machine[1], machine[2], 0)
