"""Which states are come to from which, and ranks told anew.

Lots of states are told by masks: numbers in which the bit q is set if the state q is in the lot.
"""

# Of more states than these those that lead to some are found by masks turned round.
FEW_STATES = 30


def mask_of(numbers):
    """The mask of a list of numbers."""
    mask = 0
    for number in numbers:
        mask |= 1 << number
    return mask


def through(reach, state):
    """The masks of what is come to, widened by the ways that go through this state."""
    beyond = reach[state]
    return [mask | beyond if mask >> state & 1 else mask for mask in reach]


def reach_of(goals):
    """For each state the mask of the states to which one comes from it by one step at least."""
    reach = [mask_of(row) for row in goals]
    for state in range(len(goals)):
        reach = through(reach, state)
    return reach


def circles(masks, state, inside):
    """Whether one comes from a state back to it through states inside, itself among them."""
    home = 1 << state
    reached = masks[state] & inside
    front = reached
    while front and not reached & home:
        at = front.bit_length() - 1
        fresh = masks[at] & inside & ~reached
        reached |= fresh
        front = front ^ 1 << at | fresh
    return reached & home != 0


def flood(masks, start, inside):
    """The mask of the states inside to which one comes from those of start, where masks tells the goals of each."""
    reached = start & inside
    front = reached
    while front:
        state = front.bit_length() - 1
        fresh = masks[state] & inside & ~reached
        reached |= fresh
        front = front ^ 1 << state | fresh
    return reached


def turned_masks(masks):
    """For each state the mask of the states that have it among their goals."""
    told = [0] * len(masks)
    for state, mask in enumerate(masks):
        while mask:
            goal = mask.bit_length() - 1
            mask ^= 1 << goal
            told[goal] |= 1 << state
    return told


def ring_in(masks, back, state, ahead):
    """The mask of the states, of those to which one comes from a state that circles, from which one comes to it.

    back is masks turned round if there are many states.
    """
    if back:
        return flood(back, 1 << state, ahead)
    ring = 1 << state
    rest = ahead & ~ring
    found = True
    while found:
        found = False
        left = rest
        while left:
            at = left.bit_length() - 1
            left ^= 1 << at
            if masks[at] & ring:
                ring |= 1 << at
                rest ^= 1 << at
                found = True
    return ring


def rank_of_ring(ring, rank, fresh):
    """The new rank of the states of a rank in a ring, told the ring's states of lesser ranks."""
    highest = 0
    while ring:
        at = ring.bit_length() - 1
        ring ^= 1 << at
        highest = max(highest, fresh[at])
    return highest + (highest + rank) % 2


def tell_rings(masks, back, rank, states, below, fresh):
    """Tell the new ranks of the states of a rank, where below tells the states of lesser ranks."""
    inside = below | mask_of(states)
    done = 0
    for state in states:
        if not done >> state & 1 and circles(masks, state, inside):
            ring = ring_in(masks, back, state, flood(masks, masks[state], inside))
            told = rank_of_ring(ring & below, rank, fresh)
            done |= ring
            for other in states:
                if ring >> other & 1:
                    fresh[other] = told


def ranks_anew(ranks, masks):
    """The ranks of the states told anew, where masks tells the states to which each state has a go."""
    fresh = [0] * len(ranks)
    by_rank = {}
    for state, rank in enumerate(ranks):
        by_rank.setdefault(rank, []).append(state)
    highest = 0
    below = 0
    back = []
    for rank in sorted(by_rank):
        states = by_rank[rank]
        if highest > 0:
            if len(masks) > FEW_STATES and not back:
                back = turned_masks(masks)
            tell_rings(masks, back, rank, states, below, fresh)
            highest = max(fresh)
        below |= mask_of(states)
        if highest == 0 and rank % 2:
            # All ranks told so far are 0: who comes back to itself gets 1, whatever else is in its ring.
            for state in states:
                if circles(masks, state, below):
                    fresh[state] = 1
                    highest = 1
    return fresh
