"""Whether choices let some wood by: such a wood, or a bar that refuses all of them."""

from allboughs.checks import ascends, is_number, is_row
from allboughs.choices import check_choices
from allboughs.circles import has_round
from allboughs.picking import Picking
from allboughs.usefulness import picked_pairs
from allboughs.woods import letters_of, walked


def options_of(choices):
    """For each state all pairs of all its lists, ascending."""
    return [sorted({pair for pairs in lists for pair in pairs}) for _, lists in choices[2]]


def ranks_of(choices):
    """The ranks of the states."""
    return [rank for rank, _ in choices[2]]


def letter_with(lists, pair, known):
    """The first of the known letters in whose list the pair is."""
    return [letter for letter, pairs in zip(known, lists) if pair in pairs][0]


def wood_in(choices):
    """A wood that is let by what is known to be choices; None if there is none."""
    picked = picked_pairs(ranks_of(choices), options_of(choices))
    if picked[0] is None:
        return None
    known = letters_of(choices[1])
    nodes = {}
    for state, pair in enumerate(picked):
        if pair is not None:
            nodes[state] = (letter_with(choices[2][state][1], pair, known), pair[0], pair[1])
    return ("wood", choices[1], walked(nodes, 0))


def some_wood(choices):
    """A wood that is let by; None if there is none."""
    check_choices(choices)
    return wood_in(choices)


def bar(choices):
    """A bar, which tells for each pair a way to go where no wood is let by; None if some wood is."""
    check_choices(choices)
    game = Picking(ranks_of(choices), options_of(choices))
    if game.wins[0]:
        return None
    rows = choices[2]
    order = [0]
    met = {0: True}
    at = 0
    while at < len(order):
        lists = rows[order[at]][1]
        at += 1
        for goal in [pair[game.ways[pair]] for pairs in lists for pair in pairs]:
            if goal not in met:
                met[goal] = True
                order.append(goal)
    return tuple([
        (state, tuple([tuple([game.ways[pair] for pair in pairs]) for pairs in rows[state][1]]))
        for state in sorted(order)
    ])


def fit_lists(ways, lists):
    """Whether a value is a tuple with a tuple of one way for each pair for each of the lists."""
    if not is_row(ways, len(lists), len(lists)):
        return False
    for told, pairs in zip(ways, lists):
        if not is_row(told, len(pairs), len(pairs)) or not all(is_number(way, 2) for way in told):
            return False
    return True


def is_bar(choices, thing):
    """Whether a value of any kind is a bar."""
    check_choices(choices)
    rows = choices[2]
    if not isinstance(thing, tuple) or not all(is_row(pair, 2, 2) for pair in thing):
        return False
    if not all(is_number(state, len(rows)) and fit_lists(ways, rows[state][1]) for state, ways in thing):
        return False
    states = [state for state, _ in thing]
    if not ascends(states) or 0 not in states:
        return False
    numbers = {state: at for at, state in enumerate(states)}
    goals = []
    for state, ways in thing:
        leads = [pair[way] for told, pairs in zip(ways, rows[state][1]) for way, pair in zip(told, pairs)]
        if not all(goal in numbers for goal in leads):
            return False
        goals.append([numbers[goal] for goal in leads])
    return not has_round([rows[state][0] for state in states], goals, 0)
