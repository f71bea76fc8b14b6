"""Choices: machines that guess, at each place, one pair of states for the two places below."""

from allboughs.checks import is_headed, is_number, is_pairs, is_row
from allboughs.conditions import MOST_STATES, NO, halved, to_both
from allboughs.errors import BadChoices
from allboughs.folding import folded, unfolded
from allboughs.machines import RANKS, press_plain, press_ranked
from allboughs.ranking import ranks_anew
from allboughs.woods import is_scope

MOST_PAIRS = 400


def is_list(thing, states):
    """Whether it is a list of pairs of so many states."""
    return is_pairs(thing, states, states) and len(thing) <= MOST_PAIRS


def is_state(thing, many, states):
    """Whether it is a state of choices with so many letters and so many states."""
    if not is_row(thing, 2, 2) or not is_number(thing[0], RANKS) or not is_row(thing[1], many, many):
        return False
    for pairs in thing[1]:
        if not is_list(pairs, states):
            return False
    return True


def is_choices(thing):
    """Whether a value of any kind is choices."""
    if not is_headed(thing, "choices", 3) or not is_scope(thing[1]):
        return False
    rows = thing[2]
    if not is_row(rows, 1, MOST_STATES):
        return False
    for row in rows:
        if not is_state(row, 1 << len(thing[1]), len(rows)):
            return False
    return True


def check_choices(choices):
    """Raise BadChoices for what is no choices."""
    if not is_choices(choices):
        raise BadChoices("not choices")


def ways_of(lists):
    """The states in the pairs of the lists of a state, in their sequence, as often as they stand in them."""
    return [state for pairs in lists for pair in pairs for state in pair]


def met_order(rows):
    """The states that can be come to from the state 0, in the sequence in which they are met."""
    order = [0]
    met = {0: True}
    at = 0
    while at < len(order):
        lists = rows[order[at]][1]
        for state in ways_of(lists):
            if state not in met:
                met[state] = True
                order.append(state)
        at += 1
    return order


def renumbered(lists, numbers):
    """The lists with each state q told as numbers[q]."""
    return tuple([tuple(sorted([(numbers[left], numbers[right]) for left, right in pairs])) for pairs in lists])


def tidy_ranked(scope, rows):
    """The choices of this scope with these states, tidied, if their ranks are told anew already."""
    order = met_order(rows)
    kept = [rows[state][1] for state in order]
    if order != list(range(len(order))):
        numbers = {state: number for number, state in enumerate(order)}
        kept = [renumbered(lists, numbers) for lists in kept]
    return ("choices", scope, tuple([(rows[state][0], lists) for state, lists in zip(order, kept)]))


def tidy(scope, rows):
    """The choices of this scope with these states, tidied."""
    told = tidy_ranked(scope, rows)
    ranks = [rank for rank, _ in told[2]]
    if max(ranks) == 0:
        return told
    ranks = ranks_anew(ranks, [ways_of(lists) for _, lists in told[2]])
    return ("choices", scope, tuple([(rank, lists) for rank, (_, lists) in zip(ranks, told[2])]))


def tidied(choices):
    """The choices with the states that can be come to alone, as they are met, and ranks told anew."""
    check_choices(choices)
    return tidy(choices[1], choices[2])


def condition_of(pairs):
    """The condition that says to go by one of the pairs."""
    if not pairs:
        return NO
    return halved("either", [to_both(left, right) for left, right in pairs])


def unpressed_of(choices):
    """What is known to be choices with conditions in the place of lists."""
    rows, places = folded(choices[2])
    rows = [(rank, [condition_of(pairs) for pairs in lists]) for rank, lists in rows]
    return ("machine", choices[1], unfolded(rows, places))


def machine_of_tidied(choices):
    """The machine of what is known to be tidied choices: their ranks are told anew."""
    return press_ranked(choices[1], unpressed_of(choices)[2])


def as_machine_of(choices):
    """The machine of what is known to be choices."""
    return press_plain(choices[1], unpressed_of(choices)[2], 0)


def as_machine(choices):
    """The machine that lets by just the woods that the choices let by."""
    check_choices(choices)
    return as_machine_of(choices)
