"""Machines of challenges, and machines pressed: with no states, parts and ranks that they do not need."""

from allboughs.checks import is_headed, is_number, is_row
from allboughs.conditions import MOST_STATES, goals, is_condition_for, made_plain, moved
from allboughs.errors import BadMachine
from allboughs.ranking import ranks_anew
from allboughs.woods import is_scope

RANKS = 301


def is_state(thing, many, states):
    """Whether it is a state of a machine with so many letters and so many states."""
    if not is_row(thing, 2, 2) or not is_number(thing[0], RANKS) or not is_row(thing[1], many, many):
        return False
    return all(is_condition_for(condition, states) for condition in thing[1])


def is_machine(thing):
    """Whether a value of any kind is a machine."""
    if not is_headed(thing, "machine", 3) or not is_scope(thing[1]):
        return False
    rows = thing[2]
    if not is_row(rows, 1, MOST_STATES):
        return False
    return all(is_state(row, 1 << len(thing[1]), len(rows)) for row in rows)


def check_machine(machine):
    """Raise BadMachine for what is no machine."""
    if not is_machine(machine):
        raise BadMachine("not a machine")


def met_states(rows, start):
    """The states that can be come to from start as a walk meets them, and their conditions made plain."""
    order = [start]
    met = {start: True}
    plains = []
    while len(plains) < len(order):
        conditions = [made_plain(condition) for condition in rows[order[len(plains)]][1]]
        plains.append(conditions)
        for condition in conditions:
            for _, state in goals(condition):
                if state not in met:
                    met[state] = True
                    order.append(state)
    return order, plains


def press(scope, rows, start):
    """The pressed machine of states that begins with start. There may be more of them than a machine has."""
    order, plains = met_states(rows, start)
    numbers = {state: number for number, state in enumerate(order)}
    kept = [tuple([moved(condition, numbers) for condition in conditions]) for conditions in plains]
    ways = [[state for condition in conditions for _, state in goals(condition)] for conditions in kept]
    ranks = ranks_anew([rows[state][0] for state in order], ways)
    return ("machine", scope, tuple(zip(ranks, kept)))


def pressed(machine):
    """The machine with its conditions made plain, the states that can be come to, and ranks told anew."""
    check_machine(machine)
    return press(machine[1], machine[2], 0)
