"""Which states of choices cover which, told by masks: the bit p of the mask of q is set if p covers q."""

from allboughs.ranking import mask_of

# With more unlike pairs than these in a column they are not compared each with each.
MOST_FEW = 16


def worth_of(rank):
    """A number that is the greater the later the rank comes in .. 5, 3, 1, 0, 2, 4 .."""
    return -rank if rank % 2 else rank


def no_worse(ranks):
    """For each state the mask of the states whose ranks are no worse than its own."""
    if max(ranks) == 0:
        return [(1 << len(ranks)) - 1] * len(ranks)
    worths = [worth_of(rank) for rank in ranks]
    masks = {worth: mask_of([at for at, other in enumerate(worths) if other >= worth]) for worth in sorted(set(worths))}
    return [masks[worth] for worth in worths]


def holders_of(lists):
    """For each left state, and each right state with it, the mask of the states whose list has this pair."""
    holders = {}
    for state, pairs in enumerate(lists):
        for left, right in pairs:
            beside = holders.setdefault(left, {})
            beside[right] = beside.get(right, 0) | (1 << state)
    return holders


def beside_covers(holders, covers):
    """For each right state the mask of the states with a pair of a left state of the covers and this right one."""
    beside = {}
    for left, row in holders.items():
        if covers >> left & 1:
            for right, mask in row.items():
                beside[right] = beside.get(right, 0) | mask
    return beside


def meet(holders, covers):
    """For each pair the mask of the states with a pair in their list that covers it, left and right."""
    met = {}
    by_left = {}
    by_pair = {}
    for left, row in holders.items():
        upper = covers[left]
        if upper not in by_left:
            by_left[upper] = beside_covers(holders, upper)
        for right in row:
            key = (upper, covers[right])
            if key not in by_pair:
                by_pair[key] = mask_sum([mask for at, mask in by_left[upper].items() if covers[right] >> at & 1])
            met[(left, right)] = by_pair[key]
    return met


def mask_sum(masks):
    """The mask of all that is in one of the masks."""
    told = 0
    for mask in masks:
        told |= mask
    return told


def narrowed(covers, lists, met):
    """The masks of what covers each state, narrowed to what has, for each pair of its list, one that covers it."""
    told = []
    for mask, pairs in zip(covers, lists):
        for pair in pairs:
            mask &= met[pair]
        told.append(mask)
    return told


class Few:
    """A column with few unlike pairs: for each of them its states, the bits of both, and the states that have it."""

    def __init__(self, lists):
        """Find out who has which pair."""
        holders = {}
        for state, pairs in enumerate(lists):
            for pair in pairs:
                holders.setdefault(pair, []).append(state)
        self.rows = []
        for (left, right), states in holders.items():
            self.rows.append((left, right, 1 << left, 1 << right, mask_of(states), states))

    def narrow(self, covers):
        """The masks of what covers each state, narrowed to what has, for each pair of its list, one that covers it."""
        told = list(covers)
        for left, right, _, _, _, states in self.rows:
            upper = covers[left]
            beside = covers[right]
            met = 0
            for _, _, one, other, held, _ in self.rows:
                if upper & one and beside & other:
                    met |= held
            for state in states:
                told[state] &= met
        return told


class Many:
    """A column with more of them, which are looked up by what covers their states."""

    def __init__(self, lists):
        """Find out who has which pair."""
        self.lists = lists
        self.holders = holders_of(lists)

    def narrow(self, covers):
        """The same as for few pairs."""
        return narrowed(covers, self.lists, meet(self.holders, covers))


def column_of(lists):
    """A column of lists, one for each state, ready to be narrowed by."""
    few = Few(lists)
    return few if len(few.rows) <= MOST_FEW else Many(lists)


def covers_of(ranks, lists):
    """For each state the mask of the states that cover it, where lists tells the lists of each state."""
    covers = no_worse(ranks)
    columns = [column_of([row[at] for row in lists]) for at in range(len(lists[0]))]
    at = 0
    quiet = 0
    while quiet < len(columns):
        fresh = columns[at].narrow(covers)
        quiet = quiet + 1 if fresh == covers else 0
        covers = fresh
        at = (at + 1) % len(columns)
    return covers
