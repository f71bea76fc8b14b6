"""Which states are come to from which, and ranks told anew.

Lots of states are told by masks: numbers in which the bit q is set if the state q is in the lot.
"""


def mask_of(numbers):
    """The mask of a list of numbers."""
    mask = 0
    for number in numbers:
        mask |= 1 << number
    return mask


def through(reach, state):
    """The masks of what is come to, widened by the ways that go through this state."""
    beyond = reach[state]
    return [mask | beyond if mask >> state & 1 else mask for mask in reach]


def reach_of(goals):
    """For each state the mask of the states to which one comes from it by one step at least."""
    reach = [mask_of(row) for row in goals]
    for state in range(len(goals)):
        reach = through(reach, state)
    return reach


def rank_by_ring(state, ranks, reach, fresh):
    """The new rank of a state, if reach tells what is come to through states of no greater ranks than its own."""
    if not reach[state] >> state & 1:
        return 0
    rank = ranks[state]
    inner = [
        fresh[at]
        for at in range(len(ranks))
        if ranks[at] < rank and reach[state] >> at & 1 and reach[at] >> state & 1
    ]
    highest = max(inner, default=0)
    return highest + (highest + rank) % 2


def ranks_anew(ranks, goals):
    """The ranks of the states told anew, where goals tells the states to which each state has a go."""
    reach = [mask_of(row) for row in goals]
    fresh = [0] * len(ranks)
    for rank in sorted(set(ranks)):
        states = [at for at in range(len(ranks)) if ranks[at] == rank]
        for state in states:
            reach = through(reach, state)
        for state in states:
            fresh[state] = rank_by_ring(state, ranks, reach, fresh)
    return fresh
