"""Pruned choices: no states and pairs that other ones make good, and none of no use."""

from allboughs.choices import check_choices, choices_draft, tidied_draft, told_choices
from allboughs.covering import FEW_STATES, Few, Many
from allboughs.drafts import ChoicesDraft, masks_in, masks_of, refolded, used_things
from allboughs.ranking import circles, ranks_anew
from allboughs.usefulness import useful_mask


def has_even_pair(pairs, odd):
    """Whether there is a pair of states none of which is in the mask of those with odd ranks."""
    for left, right in pairs:
        if not (odd >> left | odd >> right) & 1:
            return True
    return False


def all_go_even(ranks, columns, lists):
    """Whether each state has a pair of states with even ranks: then some wood is let by from each."""
    odd = 0
    bit = 1
    for rank in ranks:
        if rank % 2:
            odd |= bit
        bit <<= 1
    fine = [has_even_pair(pairs, odd) for pairs in lists]
    if all(fine):
        return True
    for row in zip(*columns):
        for at in row:
            if fine[at]:
                break
        else:
            return False
    return True


def useful_in(ranks, columns, lists):
    """The mask of the states from which some wood is let by."""
    if all_go_even(ranks, columns, lists):
        return (1 << len(ranks)) - 1
    rows = [1 << at for at in columns[0]]
    for column in columns[1:]:
        rows = [row | 1 << at for row, at in zip(rows, column)]
    return useful_mask(ranks, rows, [[1 << left | 1 << right for left, right in pairs] for pairs in lists])


def useful_part(ranks, columns, lists, useful):
    """The ranks, columns and lists of the useful states alone, which are told by a mask."""
    if useful == (1 << len(ranks)) - 1:
        return ranks, columns, lists
    kept = [state for state in range(len(ranks)) if useful >> state & 1]
    numbers = {state: at for at, state in enumerate(kept)}
    used, columns = used_things([[column[state] for state in kept] for column in columns])
    fewer = []
    for at in used:
        pairs = [pair for pair in lists[at] if pair[0] in numbers and pair[1] in numbers]
        fewer.append(tuple([(numbers[left], numbers[right]) for left, right in pairs]))
    columns, fewer = same_lists(columns, fewer)
    return [ranks[state] for state in kept], columns, fewer


def same_lists(columns, lists):
    """The columns and the lists with equal ones told by one number."""
    numbers = {}
    places = [numbers.setdefault(pairs, len(numbers)) for pairs in lists]
    if len(numbers) == len(lists):
        return columns, lists
    return [[places[at] for at in column] for column in columns], list(numbers)


def stand_ins(covers):
    """For each state the least one of those that it covers and that cover it."""
    told = []
    bit = 1
    for state, mask in enumerate(covers):
        least = state
        others = mask & bit - 1
        while others:
            at = others.bit_length() - 1
            others ^= 1 << at
            if covers[at] & bit:
                least = at
        told.append(least)
        bit <<= 1
    return told


def without_doubles(ranks, columns, lists):
    """The states without those that have the rank and the lists of an earlier one, which is in all pairs instead.

    They cover one another; to see that at once is what most states that do need.
    """
    if len(ranks) == 1:
        return ranks, columns, lists
    keys = list(zip(ranks, *columns))
    if len(set(keys)) == len(keys):
        return ranks, columns, lists
    firsts = {}
    instead = []
    kept = []
    for state, key in enumerate(keys):
        if key not in firsts:
            firsts[key] = len(kept)
            kept.append(state)
        instead.append(firsts[key])
    known = {}
    places = []
    for pairs in lists:
        told = tuple([(instead[left], instead[right]) for left, right in pairs])
        if len(told) > 1:
            told = tuple(sorted(set(told)))
        places.append(known.setdefault(told, len(known)))
    columns = [[places[column[state]] for state in kept] for column in columns]
    return [ranks[state] for state in kept], columns, list(known)


def merged(ranks, columns, lists):
    """The states that cover one another become one, and pairs go that another one of their list covers."""
    if len(ranks) == 1:
        return ranks, columns, lists
    covering = Few(ranks, columns, lists) if len(ranks) <= FEW_STATES else Many(ranks, columns, lists)
    if covering.idle:
        return ranks, columns, lists
    instead = stand_ins(covering.covers)
    kept = [state for state, other in enumerate(instead) if other == state]
    if len(kept) == len(ranks):
        # The lists of one pair stay.
        fewer = [covering.list_left(pairs, instead) if len(pairs) > 1 else pairs for pairs in lists]
        columns, lists = same_lists(columns, fewer)
        return ranks, columns, lists
    numbers = {state: at for at, state in enumerate(kept)}
    instead = [numbers[state] for state in instead]
    known = {}
    places = {}
    told = []
    for column in columns:
        for at in [column[state] for state in kept]:
            if at not in places:
                places[at] = known.setdefault(covering.list_left(lists[at], instead), len(known))
        told.append([places[column[state]] for state in kept])
    return [ranks[state] for state in kept], told, list(known)


def leads_to(state, lists):
    """Whether a state stands in some of the lists."""
    for pairs in lists:
        for left, right in pairs:
            if left == state or right == state:
                return True
    return False


def ranks_of(ranks, columns, lists):
    """The ranks told anew. If they are 0 and 1, and who has 1 leads to itself, they stay, which is seen at once."""
    if max(ranks) == 1:
        for state, rank in enumerate(ranks):
            if rank and not leads_to(state, [lists[column[state]] for column in columns]):
                return ranks_anew(ranks, masks_of(columns, masks_in(lists)))
        return ranks
    return ranks_anew(ranks, masks_of(columns, masks_in(lists)))


def eased(ranks, columns, lists):
    """Who does not come back to itself gets the least rank of those of its lists that do."""
    keys = list(zip(*columns))
    if len(set(keys)) == len(keys):
        return ranks
    states_with = {}
    for state, key in enumerate(keys):
        states_with.setdefault(key, []).append(state)
    told = list(ranks)
    masks = masks_of(columns, masks_in(lists))
    everything = (1 << len(ranks)) - 1
    for states in [states for states in states_with.values() if len(states) > 1]:
        back = [state for state in states if circles(masks, state, everything)]
        if back:
            least = min([ranks[state] for state in back])
            for state in states:
                if state not in back:
                    told[state] = least
    return told


def settled_part(ranks, columns, lists):
    """The ranks, columns and lists that stay if states are merged, ranks told anew and eased again and again.

    Merged again what is merged stays, as long as no rank changes: the same states cover one another then.
    """
    ranks, columns, lists = merged(ranks, columns, lists)
    while max(ranks) > 0:
        told = ranks_of(ranks, columns, lists)
        eased_ranks = eased(told, columns, lists)
        if eased_ranks == ranks:
            # Eased ranks would be told as they were ahead of that: none of these states is in a ring.
            return told, columns, lists
        ranks, columns, lists = without_doubles(eased_ranks, columns, lists)
        ranks, columns, lists = merged(ranks, columns, lists)
    return ranks, columns, lists


def lone_draft(scope, rank, places, columns, lists):
    """The draft of pruned choices of one state, which comes back to itself by all its pairs."""
    if rank % 2 or lists == [()]:
        return ChoicesDraft(scope, [0], [0] * len(places), [[0]], [()])
    places, columns = refolded(places, columns)
    return ChoicesDraft(scope, [0], places, columns, lists)


def pruned_draft(draft):
    """The draft of choices, pruned."""
    ranks, columns, lists = without_doubles(draft.ranks, draft.columns, draft.lists)
    if len(ranks) == 1:
        return lone_draft(draft.scope, ranks[0], draft.places, columns, lists)
    useful = useful_in(ranks, columns, lists)
    if not useful & 1:
        return lone_draft(draft.scope, 0, draft.places, [[0]], [()])
    # What is done next leaves it as it is from which states a wood is let by, so this is asked but once.
    ranks, columns, lists = useful_part(ranks, columns, lists, useful)
    if len(ranks) > 1:
        ranks, columns, lists = settled_part(ranks, columns, lists)
    if len(ranks) == 1:
        return lone_draft(draft.scope, 0, draft.places, columns, lists)
    places, columns = refolded(draft.places, columns)
    return tidied_draft(ChoicesDraft(draft.scope, ranks, places, columns, lists))


def pruned(choices):
    """The choices that let by the same woods, with few states, pairs and ranks."""
    check_choices(choices)
    return told_choices(pruned_draft(choices_draft(choices)))
