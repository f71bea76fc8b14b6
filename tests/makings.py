"""Wishes, outsiders and their judges for the tests, written from the words of [70], [71] and nothing else."""

import itertools

from tests.judging import has_round
from tests.support import bits, kept_spots

X = ("x",)
# x where the left way will be taken, none where the right one will.
FORESEEING = ("wish", X, ((0, (((1,), (0,)), ((0,), (1,)))), (1, (((1,), (1,)), ((1,), (1,))))))
# x again and again on each road, and never twice one behind the other.
AGAIN = ("wish", X, (
    (1, (((0,), (0,)), ((1,), (1,)))), (2, (((0,), (0,)), ((2,), (2,)))), (1, (((2,), (2,)), ((2,), (2,))))))
# No trace is endless.
NOTHING = ("wish", X, ((1, (((), ()), ((), ()))),))
# All traces are bad.
NEVER = ("wish", X, ((1, (((0,), (0,)), ((0,), (0,)))),))
PLACES = [place for many in range(5) for place in itertools.product((0, 1), repeat=many)]


def some_wish(chance, scope, many, ranks, share=0.3):
    """A wish of so many states with ranks below a number."""
    states = range(many)
    rows = []
    for _ in states:
        goals = []
        for _ in bits(scope):
            goals.append(tuple(tuple(state for state in states if chance.random() < share) for _ in (0, 1)))
        rows.append((chance.randrange(ranks), tuple(goals)))
    return ("wish", scope, tuple(rows))


def some_outsider(chance, scope, many):
    """An outsider of so many rows."""
    rows = [tuple((chance.randrange(2), chance.randrange(many)) for _ in bits(scope)) for _ in range(many)]
    return ("outsider", scope, tuple(rows))


def goals_of(wish, wood, spot):
    """The triples (way, node, state) to which traces go on from a node and a state."""
    node, state = spot
    letter, *children = wood[2][node]
    goals = wish[2][state][1][bits(wish[1]).index(letter)]
    return [(way, children[way], goal) for way in (0, 1) for goal in goals[way]]


def is_kept(wish, wood):
    """Whether a wood keeps a wish: from (0, 0) all that comes stays, told by least and greatest lots."""
    spots = [(node, state) for node in range(len(wood[2])) for state in range(len(wish[2]))]

    def fine(spot, lot):
        return all((node, state) in lot for _, node, state in goals_of(wish, wood, spot))

    return (0, 0) in kept_spots(spots, lambda spot: wish[2][spot[1]][0], fine)


def good_breach(wish, wood, thing):
    """Whether two tuples of pairs of numbers are a breach."""
    lead, loop = thing
    spot = (0, 0)
    stops = [spot]
    for way, state in lead + loop:
        fitting = [goal[1:] for goal in goals_of(wish, wood, spot) if goal[0] == way and goal[2] == state]
        if not fitting:
            return False
        spot = fitting[0]
        stops.append(spot)
    return bool(loop) and stops[len(lead)] == spot and max(wish[2][state][0] for _, state in loop) % 2 == 1


def reached_along(wish, outsider, letters):
    """The row behind letters, the states to which traces come, and all pairs of states with the ranks between."""
    row, steps = 0, []
    for letter in letters:
        number = bits(wish[1]).index(letter)
        way, row = outsider[2][row][number]
        steps.append({state: goals[number][way] for state, (_, goals) in enumerate(wish[2])})
    return row, steps


def all_good(wish, outsider, ahead, again):
    """Whether all endless traces are good where an outsider sees ahead, then again for ever."""
    rounds = again * (len(outsider[2]) + 1)
    steps = reached_along(wish, outsider, ahead + rounds + rounds)[1]
    period = None
    rows = []
    for many in range(len(outsider[2]) + 2):
        row = reached_along(wish, outsider, ahead + again * many)[0]
        if row in rows:
            begun = rows.index(row)
            period = (len(ahead) + begun * len(again), len(ahead) + many * len(again))
            break
        rows.append(row)
    start, end = period
    ways = {}
    todo = [(0, 0)]
    while todo:
        at, state = todo.pop()
        if (at, state) not in ways:
            behind = at + 1 if at + 1 < end else start
            ways[(at, state)] = [(behind, goal) for goal in steps[at][state]]
            todo.extend(ways[(at, state)])
    return not has_round(lambda spot: wish[2][spot[1]][0], ways, 1)


def letters_at(wood, many):
    """The letters of a wood at its first so many places."""
    told = []
    for place in PLACES[:many]:
        node = 0
        for way in place:
            node = wood[2][node][1 + way]
        told.append(wood[2][node][0])
    return tuple(told)
