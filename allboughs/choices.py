"""Choices: machines that guess, at each place, one pair of states for the two places below."""

from allboughs.briefs import brief_list
from allboughs.checks import is_headed, is_number, is_pairs, is_row
from allboughs.conditions import MOST_STATES
from allboughs.drafts import ChoicesDraft, MachineDraft, choices_ranks, machine_ranks, refolded, used_things
from allboughs.errors import BadChoices
from allboughs.folding import folded
from allboughs.machines import RANKS, told_machine
from allboughs.woods import is_scope

MOST_PAIRS = 400


def is_list(thing, states):
    """Whether it is a list of pairs of so many states."""
    return is_pairs(thing, states, states) and len(thing) <= MOST_PAIRS


def is_state(thing, many, states):
    """Whether it is a state of choices with so many letters and so many states."""
    if not is_row(thing, 2, 2) or not is_number(thing[0], RANKS) or not is_row(thing[1], many, many):
        return False
    for pairs in thing[1]:
        if not is_list(pairs, states):
            return False
    return True


def is_choices(thing):
    """Whether a value of any kind is choices."""
    if not is_headed(thing, "choices", 3) or not is_scope(thing[1]):
        return False
    rows = thing[2]
    if not is_row(rows, 1, MOST_STATES):
        return False
    for row in rows:
        if not is_state(row, 1 << len(thing[1]), len(rows)):
            return False
    return True


def check_choices(choices):
    """Raise BadChoices for what is no choices."""
    if not is_choices(choices):
        raise BadChoices("not choices")


def choices_draft(choices):
    """The draft of what is known to be choices."""
    rows, places = folded(choices[2])
    numbers = {}
    columns = []
    for at in range(len(rows[0][1])):
        columns.append([numbers.setdefault(lists[at], len(numbers)) for _, lists in rows])
    return ChoicesDraft(choices[1], [rank for rank, _ in rows], places, columns, list(numbers))


def told_choices(draft):
    """The choices of a draft."""
    columns = [[draft.lists[number] for number in column] for column in draft.columns]
    rows = []
    for state, rank in enumerate(draft.ranks):
        row = [column[state] for column in columns]
        rows.append((rank, tuple([row[place] for place in draft.places])))
    return ("choices", draft.scope, tuple(rows))


def order_in(draft):
    """The states of a draft of choices that can be come to, as they are met."""
    many = len(draft.ranks)
    order = [0]
    fresh = [True] * many
    fresh[0] = False
    at = 0
    while at < len(order) < many:
        state = order[at]
        at += 1
        for column in draft.columns:
            for left, right in draft.lists[column[state]]:
                if fresh[left]:
                    fresh[left] = False
                    order.append(left)
                if fresh[right]:
                    fresh[right] = False
                    order.append(right)
    return order


def is_whole(order, draft):
    """Whether an order has all states of a draft, by their numbers."""
    return order == list(range(len(draft.ranks)))


def renumbered(draft, order):
    """The draft of choices with these states alone, numbered so; the pairs of lists stand where they stood."""
    numbers = {state: number for number, state in enumerate(order)}
    used, columns = used_things([[column[state] for state in order] for column in draft.columns])
    lists = [tuple([(numbers[left], numbers[right]) for left, right in draft.lists[at]]) for at in used]
    places, columns = refolded(draft.places, columns)
    return ChoicesDraft(draft.scope, [draft.ranks[state] for state in order], places, columns, lists)


def tidied_draft(draft):
    """The draft of choices tidied, if their ranks are told anew already."""
    order = order_in(draft)
    if is_whole(order, draft):
        return draft
    told = renumbered(draft, order)
    told.lists = [tuple(sorted(pairs)) for pairs in told.lists]
    return told


def tidy(draft):
    """The draft of choices tidied."""
    told = tidied_draft(draft)
    ranks = choices_ranks(told.ranks, told.columns, told.lists)
    return ChoicesDraft(told.scope, ranks, told.places, told.columns, told.lists)


def tidied(choices):
    """The choices with the states that can be come to alone, as they are met, and ranks told anew."""
    check_choices(choices)
    return told_choices(tidy(choices_draft(choices)))


def machine_draft(draft):
    """The draft of the machine of choices whose ranks are told anew already."""
    order = order_in(draft)
    told = draft if is_whole(order, draft) else renumbered(draft, order)
    conditions = [brief_list(pairs) for pairs in told.lists]
    return MachineDraft(told.scope, told.ranks, told.places, told.columns, conditions)


def as_machine_draft(draft):
    """The draft of the machine of choices."""
    told = machine_draft(draft)
    told.ranks = machine_ranks(told.ranks, told.columns, told.conditions)
    return told


def as_machine(choices):
    """The machine that lets by just the woods that the choices let by."""
    check_choices(choices)
    return told_machine(as_machine_draft(choices_draft(choices)))
