"""Ranks, steps, and where traces can stand behind steps."""

from allboughs.checks import is_number, is_pairs, is_row
from allboughs.errors import BadRanks, BadSteps

MOST_STATES = 24
RANKS = 62
MOST_STEPS = 200


def is_ranks(thing):
    """Whether a value of any kind is ranks."""
    return is_row(thing, 1, MOST_STATES) and all(is_number(rank, RANKS) for rank in thing)


def check_ranks(ranks):
    """Raise BadRanks for what is no ranks."""
    if not is_ranks(ranks):
        raise BadRanks("not ranks")


def is_step_of(thing, states):
    """Whether it is a step for ranks of so many states."""
    return is_pairs(thing, states, states)


def is_step(ranks, thing):
    """Whether a value of any kind is a step for these ranks."""
    check_ranks(ranks)
    return is_step_of(thing, len(ranks))


def are_steps(thing, states, least, most):
    """Whether it is a tuple of so many steps for ranks of so many states."""
    return is_row(thing, least, most) and all(is_step_of(step, states) for step in thing)


def check_steps(ranks, steps):
    """Raise the errors of functions of ranks and steps."""
    check_ranks(ranks)
    if not are_steps(steps, len(ranks), 0, MOST_STEPS):
        raise BadSteps("not a tuple of at most 200 steps")


def traced(ranks, steps):
    """The ascending tuple of the states in which a trace can stand behind all steps."""
    check_steps(ranks, steps)
    reached = (0,)
    for step in steps:
        reached = tuple(sorted({goal for state, goal in step if state in reached}))
    return reached
