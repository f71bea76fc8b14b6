"""Which states are come to from which, and ranks told anew.

Lots of states are told by masks: numbers in which the bit q is set if the state q is in the lot.
"""


def mask_of(numbers):
    """The mask of a list of numbers."""
    mask = 0
    for number in numbers:
        mask |= 1 << number
    return mask


def through(reach, state):
    """The masks of what is come to, widened by the ways that go through this state."""
    beyond = reach[state]
    return [mask | beyond if mask >> state & 1 else mask for mask in reach]


def reach_of(goals):
    """For each state the mask of the states to which one comes from it by one step at least."""
    reach = [mask_of(row) for row in goals]
    for state in range(len(goals)):
        reach = through(reach, state)
    return reach


def flood(masks, start, inside):
    """The mask of the states inside to which one comes from those of start, where masks tells the goals of each."""
    reached = start & inside
    front = reached
    while front:
        state = front.bit_length() - 1
        fresh = masks[state] & inside & ~reached
        reached |= fresh
        front = front ^ 1 << state | fresh
    return reached


def turned_masks(masks):
    """For each state the mask of the states that have it among their goals."""
    told = [0] * len(masks)
    for state, mask in enumerate(masks):
        while mask:
            goal = mask.bit_length() - 1
            mask ^= 1 << goal
            told[goal] |= 1 << state
    return told


def rank_of_ring(ring, rank, below, fresh):
    """The new rank of the states of a rank in a ring, where below tells the states of lesser ranks."""
    highest = 0
    inner = ring & below
    while inner:
        at = inner.bit_length() - 1
        inner ^= 1 << at
        highest = max(highest, fresh[at])
    return highest + (highest + rank) % 2


def circling_in(masks):
    """The mask of the states from which one comes back to themselves, where masks tells the goals of each."""
    everything = (1 << len(masks)) - 1
    told = 0
    for state, mask in enumerate(masks):
        if mask >> state & 1 or flood(masks, mask, everything) >> state & 1:
            told |= 1 << state
    return told


def ranks_anew(ranks, goals):
    """The ranks of the states told anew, where goals tells the states to which each state has a go."""
    known = sorted(set(ranks))
    if len(known) == 1:
        if known[0] % 2 == 0:
            return [0] * len(ranks)
        circling = circling_in([mask_of(row) for row in goals])
        return [circling >> state & 1 for state in range(len(ranks))]
    masks = [mask_of(row) for row in goals]
    back = turned_masks(masks)
    fresh = [0] * len(ranks)
    below = 0
    for rank in known:
        states = [at for at, other in enumerate(ranks) if other == rank]
        inside = below | mask_of(states)
        done = 0
        for state in states:
            if done >> state & 1:
                continue
            ahead = flood(masks, masks[state], inside)
            if ahead >> state & 1:
                ring = ahead & flood(back, back[state], inside)
                told = rank_of_ring(ring, rank, below, fresh)
                done |= ring
                for other in states:
                    if ring >> other & 1:
                        fresh[other] = told
        below = inside
    return fresh


def coming_back(goals):
    """The mask of the states from which one comes back to themselves."""
    return circling_in([mask_of(row) for row in goals])
