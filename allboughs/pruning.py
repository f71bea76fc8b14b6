"""Pruned choices: no states and pairs that other ones make good, and none of no use."""

from allboughs.choices import check_choices, tidy_ranked, ways_of
from allboughs.covering import covers_of
from allboughs.emptying import options_of, ranks_of
from allboughs.folding import folded, unfolded
from allboughs.ranking import coming_back, ranks_anew
from allboughs.usefulness import picked_pairs


def useful_pairs(choices, picked):
    """The states without the pairs with a state from which no wood is let by: those from which no pair is picked."""
    if all(pair is not None for pair in picked):
        return list(choices[2])
    useful = {state: True for state, pair in enumerate(picked) if pair is not None}
    return [
        (rank, tuple([tuple([pair for pair in pairs if pair[0] in useful and pair[1] in useful]) for pairs in lists]))
        for rank, lists in choices[2]
    ]


def stand_ins(covers):
    """For each state the least one of those that it covers and that cover it."""
    told = []
    for state, mask in enumerate(covers):
        told.append([at for at in range(state + 1) if mask >> at & 1 and covers[at] >> state & 1][0])
    return told


def is_covered(pair, pairs, covers):
    """Whether another one of the pairs covers both states of this one."""
    for other in pairs:
        if other != pair and covers[pair[0]] >> other[0] & 1 and covers[pair[1]] >> other[1] & 1:
            return True
    return False


def uncovered(pairs, covers):
    """The pairs that no other one of them covers."""
    if len(pairs) < 2:
        return tuple(pairs)
    return tuple([pair for pair in pairs if not is_covered(pair, pairs, covers)])


def merged(rows):
    """The states that cover one another become one, and pairs go that another one of their list covers."""
    covers = covers_of([rank for rank, _ in rows], [lists for _, lists in rows])
    if all(mask == 1 << state for state, mask in enumerate(covers)):
        return rows
    instead = stand_ins(covers)
    told = {}
    for state, (rank, lists) in enumerate(rows):
        if instead[state] == state:
            fewer = [sorted({(instead[left], instead[right]) for left, right in pairs}) for pairs in lists]
            told[state] = (rank, tuple([uncovered(pairs, covers) for pairs in fewer]))
    return renumbered_rows(told)


def renumbered_rows(rows):
    """The states of a dict, in their sequence, with numbers from 0 on."""
    if list(rows) == list(range(len(rows))):
        return list(rows.values())
    numbers = {state: at for at, state in enumerate(rows)}
    return [
        (rank, tuple([tuple([(numbers[left], numbers[right]) for left, right in pairs]) for pairs in lists]))
        for rank, lists in rows.values()
    ]


def reranked(rows):
    """The states with their ranks told anew."""
    ranks = [rank for rank, _ in rows]
    if max(ranks) == 0:
        return rows
    ranks = ranks_anew(ranks, [ways_of(lists) for _, lists in rows])
    return [(rank, lists) for rank, (_, lists) in zip(ranks, rows)]


def eased(rows):
    """Who does not come back to itself gets the least rank of those of its lists that do; all ranks are told anew."""
    if max([rank for rank, _ in rows]) == 0:
        return rows
    circling = coming_back([ways_of(lists) for _, lists in rows])
    least_ranks = {}
    for state, (rank, lists) in enumerate(rows):
        if circling >> state & 1:
            least_ranks[lists] = min(rank, least_ranks.get(lists, rank))
    told = []
    for state, (rank, lists) in enumerate(rows):
        told.append((rank if circling >> state & 1 else least_ranks.get(lists, rank), lists))
    return told


def pruned_of(choices):
    """What is known to be choices, pruned."""
    picked = picked_pairs(ranks_of(choices), options_of(choices))
    if picked[0] is None:
        return ("choices", choices[1], ((0, ((),) * (1 << len(choices[1]))),))
    if len(choices[2]) == 1:
        # It comes back to itself by all its pairs, and its rank is even.
        return ("choices", choices[1], ((0, choices[2][0][1]),))
    # What is done next leaves it as it is from which states a wood is let by, so this is asked but once.
    rows, places = folded(useful_pairs(choices, picked))
    # Merged again what is merged stays, as long as no rank changes: the same states cover one another then.
    told = merged(rows)
    ranked = reranked(told)
    rows = eased(ranked)
    while rows != told:
        told = merged(rows)
        ranked = reranked(told)
        rows = eased(ranked)
    # Eased ranks would be told as they were ahead of that: none of these states is in a ring.
    return tidy_ranked(choices[1], unfolded(ranked, places))


def pruned(choices):
    """The choices that let by the same woods, with few states, pairs and ranks."""
    check_choices(choices)
    return pruned_of(choices)
