"""Wishes, which makers keep whatever way is taken, and breaches of them."""

from allboughs.checks import is_headed, is_number, is_numbers, is_row
from allboughs.circles import found_round
from allboughs.errors import BadWish, OtherScope, TooMany
from allboughs.woods import check_wood, is_scope, letters_of

MOST_STATES = 12
RANKS = 10


def are_goals(thing, states):
    """Whether it is a pair of ascending tuples of numbers of so many states."""
    return is_row(thing, 2, 2) and is_numbers(thing[0], states) and is_numbers(thing[1], states)


def is_wish_state(thing, many, states):
    """Whether it is a state of a wish with so many letters and so many states."""
    if not is_row(thing, 2, 2) or not is_number(thing[0], RANKS) or not is_row(thing[1], many, many):
        return False
    return all(are_goals(goals, states) for goals in thing[1])


def is_wish(thing):
    """Whether a value of any kind is a wish."""
    if not is_headed(thing, "wish", 3) or not is_scope(thing[1]) or not is_row(thing[2], 1, MOST_STATES):
        return False
    return all(is_wish_state(row, 1 << len(thing[1]), len(thing[2])) for row in thing[2])


def check_wish(wish):
    """Raise BadWish for what is no wish."""
    if not is_wish(wish):
        raise BadWish("not a wish")


def check_wish_on(wish, wood):
    """Raise the errors of functions of a wish and a wood."""
    check_wish(wish)
    check_wood(wood)
    if wish[1] != wood[1]:
        raise OtherScope("a wish and a wood of unlike scopes")


def check_wishes(one, other):
    """Raise the errors of functions of two wishes of one scope."""
    check_wish(one)
    check_wish(other)
    if one[1] != other[1]:
        raise OtherScope("wishes of unlike scopes")


class Traces:
    """The pairs (node, state) to which traces of a wish come on a wood, and how they come there.

    steps has for each of them, by numbers, the pairs (way, pair) to which a trace may go on; origins has for each
    but the first one the pair from which it was met, and the way.
    """

    def __init__(self, wish, wood):
        """Meet them at once."""
        self.states = wish[2]
        self.nodes = wood[2]
        known = {letter: at for at, letter in enumerate(letters_of(wish[1]))}
        self.places = [known[letter] for letter, _, _ in wood[2]]
        self.spots = [(0, 0)]
        self.numbers = {(0, 0): 0}
        self.origins = [None]
        self.steps = []
        while len(self.steps) < len(self.spots):
            self.steps.append(self.steps_from(len(self.steps)))

    def steps_from(self, at):
        """The pairs (way, pair) to which a trace may go on from a pair."""
        node, state = self.spots[at]
        goals = self.states[state][1][self.places[node]]
        return [(way, self.number((self.nodes[node][1 + way], goal), at, way)) for way in (0, 1) for goal in goals[way]]

    def number(self, spot, origin, way):
        """The number of a pair, which is met now if it was not met yet."""
        if spot not in self.numbers:
            self.numbers[spot] = len(self.spots)
            self.spots.append(spot)
            self.origins.append((origin, way))
        return self.numbers[spot]

    def bad_round(self):
        """A round of pairs, by numbers, with an odd greatest rank; None if there is none."""
        ranks = [self.states[state][0] for _, state in self.spots]
        return found_round(ranks, [[spot for _, spot in steps] for steps in self.steps], 1)

    def way_to(self, at):
        """The pairs (way, state) by which a trace comes from the first pair to this one."""
        told = []
        while at > 0:
            state = self.spots[at][1]
            at, way = self.origins[at]
            told.append((way, state))
        return tuple(told[::-1])

    def way_around(self, spots):
        """The pairs (way, state) by which a trace goes around, from the first one of these pairs back to it."""
        told = []
        for at, spot in enumerate(spots):
            goal = spots[(at + 1) % len(spots)]
            way = [way for way, onward in self.steps[spot] if onward == goal][0]
            told.append((way, self.spots[goal][1]))
        return tuple(told)


def keeps(wish, wood):
    """Whether a wood keeps a wish."""
    check_wish_on(wish, wood)
    return Traces(wish, wood).bad_round() is None


def breach(wish, wood):
    """None if a wood keeps a wish, otherwise a pair (lead, loop) that tells a bad trace."""
    check_wish_on(wish, wood)
    traces = Traces(wish, wood)
    found = traces.bad_round()
    if found is None:
        return None
    return (traces.way_to(found[0]), traces.way_around(found))


def gone(wish, wood, spot, pairs):
    """Where a trace stands that goes by pairs (way, state) from a pair (node, state); None if it cannot."""
    known = letters_of(wish[1])
    node, state = spot
    for way, goal in pairs:
        letter, left, right = wood[2][node]
        if goal not in wish[2][state][1][known.index(letter)][way]:
            return None
        node = right if way else left
        state = goal
    return (node, state)


def is_breach(wish, wood, thing):
    """Whether a value of any kind is a breach."""
    check_wish_on(wish, wood)
    if not is_row(thing, 2, 2) or not isinstance(thing[0], tuple) or not isinstance(thing[1], tuple):
        return False
    lead, loop = thing
    if not loop or not all(is_row(pair, 2, 2) for pair in lead + loop):
        return False
    if not all(is_number(way, 2) and is_number(state, len(wish[2])) for way, state in lead + loop):
        return False
    start = gone(wish, wood, (0, 0), lead)
    if start is None or gone(wish, wood, start, loop) != start:
        return False
    return max([wish[2][state][0] for _, state in loop]) % 2 == 1


def moved_along(goals, shift):
    """The numbers of states moved along."""
    return tuple([goal + shift for goal in goals])


def both(one, other):
    """The wish that is kept by just the woods that keep both wishes."""
    check_wishes(one, other)
    mine = one[2]
    theirs = other[2]
    if len(mine) + len(theirs) > MOST_STATES - 1:
        raise TooMany(MOST_STATES)
    rows = []
    for states, shift in ((mine, 1), (theirs, 1 + len(mine))):
        for rank, goals in states:
            rows.append((rank, tuple([(moved_along(left, shift), moved_along(right, shift)) for left, right in goals])))
    # The states are not behind the new first one yet, so the first ones of both wishes are the rows 0 and len(mine).
    first = []
    for (left, right), (more, further) in zip(rows[0][1], rows[len(mine)][1]):
        first.append((left + more, right + further))
    return ("wish", one[1], ((0, tuple(first)), *rows))
