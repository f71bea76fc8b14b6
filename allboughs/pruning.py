"""Pruned choices: no states and pairs that other ones make good, and none of no use."""

from allboughs.choices import check_choices, tidy, ways_of
from allboughs.covering import covers_of
from allboughs.emptying import game_of_states
from allboughs.ranking import ranks_anew, reach_of


def useful_pairs(choices, useful):
    """The states without the pairs with a state from which no wood is let by."""
    return [
        (rank, tuple([tuple([pair for pair in pairs if useful[pair[0]] and useful[pair[1]]]) for pairs in lists]))
        for rank, lists in choices[2]
    ]


def stand_ins(covers):
    """For each state the least one of those that it covers and that cover it."""
    told = []
    for state, mask in enumerate(covers):
        told.append([at for at in range(state + 1) if mask >> at & 1 and covers[at] >> state & 1][0])
    return told


def is_covered(pair, pairs, covers):
    """Whether another one of the pairs covers both states of this one."""
    for other in pairs:
        if other != pair and covers[pair[0]] >> other[0] & 1 and covers[pair[1]] >> other[1] & 1:
            return True
    return False


def uncovered(pairs, covers):
    """The pairs that no other one of them covers."""
    return tuple([pair for pair in pairs if not is_covered(pair, pairs, covers)])


def merged(rows):
    """The states that cover one another become one, and pairs go that another one of their list covers."""
    covers = covers_of([rank for rank, _ in rows], [lists for _, lists in rows])
    instead = stand_ins(covers)
    told = {}
    for state, (rank, lists) in enumerate(rows):
        if instead[state] == state:
            fewer = [sorted({(instead[left], instead[right]) for left, right in pairs}) for pairs in lists]
            told[state] = (rank, tuple([uncovered(pairs, covers) for pairs in fewer]))
    return renumbered_rows(told)


def renumbered_rows(rows):
    """The states of a dict, in their sequence, with numbers from 0 on."""
    numbers = {state: at for at, state in enumerate(rows)}
    return [
        (rank, tuple([tuple([(numbers[left], numbers[right]) for left, right in pairs]) for pairs in lists]))
        for rank, lists in rows.values()
    ]


def reranked(rows):
    """The ranks told anew; who does not come back to itself gets the least rank of those of its lists that do."""
    goals = [ways_of(lists) for _, lists in rows]
    ranks = ranks_anew([rank for rank, _ in rows], goals)
    reach = reach_of(goals)
    least_ranks = {}
    for state, (_, lists) in enumerate(rows):
        if reach[state] >> state & 1:
            least_ranks[lists] = min(ranks[state], least_ranks.get(lists, ranks[state]))
    told = []
    for state, (_, lists) in enumerate(rows):
        rank = ranks[state] if reach[state] >> state & 1 else least_ranks.get(lists, ranks[state])
        told.append((rank, lists))
    return told


def pruned(choices):
    """The choices that let by the same woods, with few states, pairs and ranks."""
    check_choices(choices)
    useful = game_of_states(choices).wins
    if not useful[0]:
        return ("choices", choices[1], ((0, ((),) * (1 << len(choices[1]))),))
    # What is done next leaves it as it is from which states a wood is let by, so this is asked but once.
    rows = useful_pairs(choices, useful)
    ahead = None
    while rows != ahead:
        ahead = rows
        rows = reranked(merged(rows))
    return tidy(choices[1], rows)
