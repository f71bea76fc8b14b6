"""Choices: machines that guess, at each place, one pair of states for the two places below."""

from allboughs.checks import is_headed, is_number, is_pairs, is_row
from allboughs.conditions import MOST_STATES, NO, halved, to_both
from allboughs.errors import BadChoices
from allboughs.machines import RANKS, press
from allboughs.ranking import ranks_anew
from allboughs.woods import is_scope

MOST_PAIRS = 400


def is_list(thing, states):
    """Whether it is a list of pairs of so many states."""
    return is_pairs(thing, states, states) and len(thing) <= MOST_PAIRS


def is_state(thing, many, states):
    """Whether it is a state of choices with so many letters and so many states."""
    if not is_row(thing, 2, 2) or not is_number(thing[0], RANKS) or not is_row(thing[1], many, many):
        return False
    return all(is_list(pairs, states) for pairs in thing[1])


def is_choices(thing):
    """Whether a value of any kind is choices."""
    if not is_headed(thing, "choices", 3) or not is_scope(thing[1]):
        return False
    rows = thing[2]
    if not is_row(rows, 1, MOST_STATES):
        return False
    return all(is_state(row, 1 << len(thing[1]), len(rows)) for row in rows)


def check_choices(choices):
    """Raise BadChoices for what is no choices."""
    if not is_choices(choices):
        raise BadChoices("not choices")


def ways_of(lists):
    """The states in the pairs of the lists of a state, in their sequence, as often as they stand in them."""
    return [state for pairs in lists for pair in pairs for state in pair]


def met_order(rows):
    """The states that can be come to from the state 0, in the sequence in which they are met."""
    order = [0]
    met = {0: True}
    at = 0
    while at < len(order):
        lists = rows[order[at]][1]
        for state in ways_of(lists):
            if state not in met:
                met[state] = True
                order.append(state)
        at += 1
    return order


def renumbered(lists, numbers):
    """The lists with each state q told as numbers[q]."""
    return tuple([tuple(sorted([(numbers[left], numbers[right]) for left, right in pairs])) for pairs in lists])


def tidy(scope, rows):
    """The choices of this scope with these states, tidied."""
    order = met_order(rows)
    numbers = {state: number for number, state in enumerate(order)}
    kept = [renumbered(rows[state][1], numbers) for state in order]
    ranks = ranks_anew([rows[state][0] for state in order], [ways_of(lists) for lists in kept])
    return ("choices", scope, tuple(zip(ranks, kept)))


def tidied(choices):
    """The choices with the states that can be come to alone, as they are met, and ranks told anew."""
    check_choices(choices)
    return tidy(choices[1], choices[2])


def condition_of(pairs):
    """The condition that says to go by one of the pairs."""
    if not pairs:
        return NO
    return halved("either", [to_both(left, right) for left, right in pairs])


def as_machine(choices):
    """The machine that lets by just the woods that the choices let by."""
    check_choices(choices)
    rows = [(rank, [condition_of(pairs) for pairs in lists]) for rank, lists in choices[2]]
    return press(choices[1], rows, 0)
