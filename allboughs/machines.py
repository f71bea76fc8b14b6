"""Machines of challenges, and machines pressed: with no states, parts and ranks that they do not need."""

from allboughs.briefs import whole
from allboughs.checks import is_headed, is_number, is_row
from allboughs.conditions import MOST_STATES, is_condition_for, made_plain, moved, states_in
from allboughs.drafts import MachineDraft, machine_ranks
from allboughs.errors import BadMachine
from allboughs.folding import folded
from allboughs.woods import is_scope

RANKS = 301


def is_state(thing, many, states):
    """Whether it is a state of a machine with so many letters and so many states."""
    if not is_row(thing, 2, 2) or not is_number(thing[0], RANKS) or not is_row(thing[1], many, many):
        return False
    for condition in thing[1]:
        if not is_condition_for(condition, states):
            return False
    return True


def is_machine(thing):
    """Whether a value of any kind is a machine."""
    if not is_headed(thing, "machine", 3) or not is_scope(thing[1]):
        return False
    rows = thing[2]
    if not is_row(rows, 1, MOST_STATES):
        return False
    for row in rows:
        if not is_state(row, 1 << len(thing[1]), len(rows)):
            return False
    return True


def check_machine(machine):
    """Raise BadMachine for what is no machine."""
    if not is_machine(machine):
        raise BadMachine("not a machine")


def drafted(scope, rows, start):
    """The draft of a machine that begins with start, with the states that can be come to, as a walk meets them.

    rows may be a list or a dict, of states whose conditions are plain; their ranks stay.
    """
    order = [start]
    numbers = {start: 0}
    at = 0
    while at < len(order):
        for condition in rows[order[at]][1]:
            for state in states_in(condition):
                if state not in numbers:
                    numbers[state] = len(order)
                    order.append(state)
        at += 1
    kept, places = folded([rows[state] for state in order])
    letters = range(len(kept[0][1]))
    columns = [list(range(at * len(order), (at + 1) * len(order))) for at in letters]
    conditions = [row[at] for at in letters for _, row in kept]
    if order != list(range(len(order))):
        conditions = [moved(condition, numbers) for condition in conditions]
    return MachineDraft(scope, [rank for rank, _ in kept], places, columns, conditions)


def press_plain(scope, rows, start):
    """The draft of the pressed machine of such states that begins with start."""
    draft = drafted(scope, rows, start)
    draft.ranks = machine_ranks(draft.ranks, draft.columns, draft.conditions)
    return draft


def told_machine(draft):
    """The machine of a draft."""
    conditions = [whole(condition) for condition in draft.conditions]
    columns = [[conditions[number] for number in column] for column in draft.columns]
    rows = []
    for state, rank in enumerate(draft.ranks):
        row = [column[state] for column in columns]
        rows.append((rank, tuple([row[place] for place in draft.places])))
    return ("machine", draft.scope, tuple(rows))


def plain_rows(rows):
    """The states with their conditions made plain."""
    return [(rank, tuple([made_plain(condition) for condition in conditions])) for rank, conditions in rows]


def press(scope, rows, start):
    """The draft of the pressed machine of states that begins with start."""
    return press_plain(scope, plain_rows(rows), start)


def pressed(machine):
    """The machine with its conditions made plain, the states that can be come to, and ranks told anew."""
    check_machine(machine)
    return told_machine(press(machine[1], machine[2], 0))
