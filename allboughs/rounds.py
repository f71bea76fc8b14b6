"""Rounds of steps: a bad trace that goes round, or a measure by which all endless traces are seen to be good."""

from allboughs.checks import is_number, is_pair, is_row
from allboughs.circles import found_round
from allboughs.errors import BadAgain, BadAhead
from allboughs.steps import are_steps, check_ranks

MOST_STEPS = 12
NUMBERS = 401


def check_round(ranks, ahead, again):
    """Raise the errors of functions of ranks and a round."""
    check_ranks(ranks)
    if not are_steps(ahead, len(ranks), 0, MOST_STEPS):
        raise BadAhead("not a tuple of 0 to 12 steps")
    if not are_steps(again, len(ranks), 1, MOST_STEPS):
        raise BadAgain("not a tuple of 1 to 12 steps")


def goals_in(step):
    """For each state that a step leads on the states to which it leads."""
    goals = {}
    for state, goal in step:
        goals.setdefault(state, []).append(goal)
    return goals


class Round:
    """The spots of a round, by numbers, and the spots to which each of them leads.

    origins has for each spot that stands ahead of the first step again, and was met first behind ahead, a trace of
    ahead; for all others the spot from which it was met.
    """

    def __init__(self, ahead, again):
        """Meet the spots at once."""
        self.steps = [goals_in(step) for step in again]
        traces = {0: (0,)}
        for step in ahead:
            goals = goals_in(step)
            traces = {goal: (*trace, goal) for state, trace in traces.items() for goal in goals.get(state, [])}
        self.spots = [(0, state) for state in sorted(traces)]
        self.origins = [traces[state] for state in sorted(traces)]
        self.begun = len(self.spots)
        self.numbers = {spot: at for at, spot in enumerate(self.spots)}
        self.goals = []
        while len(self.goals) < len(self.spots):
            self.goals.append(self.goals_from(len(self.goals)))

    def goals_from(self, at):
        """The numbers of the spots to which a spot leads, which may be met now."""
        here, state = self.spots[at]
        behind = (here + 1) % len(self.steps)
        found = []
        for goal in self.steps[here].get(state, []):
            spot = (behind, goal)
            if spot not in self.numbers:
                self.numbers[spot] = len(self.spots)
                self.spots.append(spot)
                self.origins.append(at)
            found.append(self.numbers[spot])
        return found

    def trace_to(self, at):
        """A trace of ahead and, as far as is needed, of again, that ends at a spot."""
        states = []
        while at >= self.begun:
            states.append(self.spots[at][1])
            at = self.origins[at]
        return self.origins[at] + tuple(states[::-1])


def bad_trace(ranks, ahead, again):
    """None if all endless traces of a round are good, otherwise a pair (lead, loop) that tells a bad one."""
    check_round(ranks, ahead, again)
    spots = Round(ahead, again)
    found = found_round([ranks[state] for _, state in spots.spots], spots.goals, 1)
    if found is None:
        return None
    # The way around comes to each step of again, so it can begin ahead of the first one.
    start = [at for at, spot in enumerate(found) if spots.spots[spot][0] == 0][0]
    turned = found[start:] + found[:start]
    loop = [spots.spots[spot][1] for spot in turned]
    return (spots.trace_to(turned[0]), tuple(loop + loop[:1]))


def are_states(thing, many):
    """Whether it is a tuple of numbers of so many states, one at least."""
    return isinstance(thing, tuple) and len(thing) > 0 and all(is_number(state, many) for state in thing)


def is_trace(states, steps):
    """Whether each two neighbours among the states are a pair of the step there, one for each of them."""
    return all((states[at], states[at + 1]) in steps[at] for at in range(len(states) - 1))


def is_bad_trace(ranks, ahead, again, thing):
    """Whether a value of any kind is a bad trace of a round."""
    check_round(ranks, ahead, again)
    if not is_row(thing, 2, 2) or not all(are_states(states, len(ranks)) for states in thing):
        return False
    lead, loop = thing
    led = len(lead) - 1 - len(ahead)
    if led < 0 or led % len(again) or len(loop) == 1 or (len(loop) - 1) % len(again):
        return False
    if lead[0] != 0 or lead[-1] != loop[0] or loop[-1] != loop[0]:
        return False
    if not is_trace(lead, ahead + again * (led // len(again))):
        return False
    if not is_trace(loop, again * ((len(loop) - 1) // len(again))):
        return False
    return max([ranks[state] for state in loop]) % 2 == 1


def most_met(spots, ranks, odd):
    """For each spot how many spots with this rank come behind it, at most, ahead of one with a greater rank.

    No way leads around through spots with this rank and lesser ones, so none is counted twice.
    """
    states = [ranks[state] for _, state in spots.spots]
    sources = [[] for _ in states]
    for at, goals in enumerate(spots.goals):
        for goal in goals:
            if states[goal] <= odd:
                sources[goal].append(at)
    told = [0] * len(states)
    todo = [at for at, rank in enumerate(states) if rank == odd]
    while todo:
        goal = todo.pop()
        for at in sources[goal]:
            many = told[goal] + (1 if states[goal] == odd else 0)
            if many > told[at]:
                told[at] = many
                todo.append(at)
    return told


def odds_up_to(rank):
    """The odd numbers up to a rank, the greater ones first."""
    return [odd for odd in range(rank, 0, -1) if odd % 2]


def measure(ranks, ahead, again):
    """None if there is a bad trace, otherwise a measure of the spots of a round."""
    check_round(ranks, ahead, again)
    spots = Round(ahead, again)
    if found_round([ranks[state] for _, state in spots.spots], spots.goals, 1) is not None:
        return None
    columns = [most_met(spots, ranks, odd) for odd in odds_up_to(max(ranks))]
    return {spot: tuple([column[spots.numbers[spot]] for column in columns]) for spot in sorted(spots.spots)}


def is_measure(ranks, ahead, again, thing):
    """Whether a value of any kind is a measure of the spots of a round."""
    check_round(ranks, ahead, again)
    spots = Round(ahead, again)
    odds = odds_up_to(max(ranks))
    if not isinstance(thing, dict) or not all(is_pair(spot, len(again), len(ranks)) for spot in thing):
        return False
    if list(thing) != sorted(spots.spots):
        return False
    for numbers in list(thing.values()):
        if not is_row(numbers, len(odds), len(odds)) or not all(is_number(number, NUMBERS) for number in numbers):
            return False
    for spot, goals in zip(spots.spots, spots.goals):
        for goal in goals:
            rank = ranks[spots.spots[goal][1]]
            cut = len([odd for odd in odds if odd >= rank])
            mine = thing[spot][:cut]
            theirs = thing[spots.spots[goal]][:cut]
            if mine < theirs or rank % 2 == 1 and mine == theirs:
                return False
    return True
