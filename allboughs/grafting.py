"""Woods made of woods: with fewer or more names, joined, grafted, with left and right exchanged."""

from allboughs.checks import ascends
from allboughs.errors import BadNames, BadScope, OtherScope, SharedName, TooMany
from allboughs.woods import MOST_NODES, check_place, check_wood, walked
from allboughs.words import is_name

MOST_NAMES = 3


def are_names(thing):
    """Whether a value of any kind is an ascending tuple of names."""
    return isinstance(thing, tuple) and all(is_name(name) for name in thing) and ascends(thing)


def left_out(wood, names):
    """The wood without the marks of these names, its nodes as they are."""
    scope = tuple([name for name in wood[1] if name not in names])
    rows = [(tuple([name for name in letter if name in scope]), left, right) for letter, left, right in wood[2]]
    return ("wood", scope, tuple(rows))


def without(wood, names):
    """The wood without the marks of some of its names."""
    check_wood(wood)
    if not are_names(names) or not all(name in wood[1] for name in names):
        raise BadNames("not names of the scope")
    return left_out(wood, names)


def bare(wood, names):
    """The wood of a wider scope in which nothing bears the further names."""
    check_wood(wood)
    if not are_names(names) or any(name in wood[1] for name in names):
        raise BadNames("not names that the scope has not")
    scope = tuple(sorted(wood[1] + names))
    if len(scope) > MOST_NAMES:
        raise BadNames("too many names")
    return ("wood", scope, wood[2])


def check_size(rows):
    """Raise TooMany for the rows of what would be a wood if it had fewer nodes."""
    if len(rows) > MOST_NODES:
        raise TooMany(MOST_NODES)


def joined_rows(mine, theirs):
    """The nodes for the pairs that can be come to, each with what its two nodes bear."""
    pairs = [(0, 0)]
    numbers = {(0, 0): 0}
    rows = []
    while len(rows) < len(pairs):
        check_size(pairs)
        one, other = pairs[len(rows)]
        goals = []
        for way in (1, 2):
            pair = (mine[one][way], theirs[other][way])
            if pair not in numbers:
                numbers[pair] = len(pairs)
                pairs.append(pair)
            goals.append(numbers[pair])
        rows.append((tuple(sorted(mine[one][0] + theirs[other][0])), goals[0], goals[1]))
    return tuple(rows)


def joined(one, other):
    """The wood of the names of both in which each place bears what it bears in either."""
    check_wood(one)
    check_wood(other)
    for name in one[1]:
        if name in other[1]:
            raise SharedName(name)
    scope = tuple(sorted(one[1] + other[1]))
    if len(scope) > MOST_NAMES:
        raise BadScope("more than 3 names together")
    return ("wood", scope, joined_rows(one[2], other[2]))


def grafted(wood, place, other):
    """The wood that is wood but for the tree at place, which is other."""
    check_wood(wood)
    check_place(place)
    check_wood(other)
    if wood[1] != other[1]:
        raise OtherScope("woods of unlike scopes")
    mine = wood[2]
    shift = len(mine)
    rows = list(mine) + [(letter, left + shift, right + shift) for letter, left, right in other[2]]
    # Behind the nodes of both stand those of the road, one for each beginning of the place; the last leads to other.
    start = len(rows) if place else shift
    node = 0
    for at, way in enumerate(place):
        letter, left, right = mine[node]
        onward = len(rows) + 1 if at + 1 < len(place) else shift
        rows.append((letter, left, onward) if way else (letter, onward, right))
        node = right if way else left
    told = walked(rows, start)
    check_size(told)
    return ("wood", wood[1], told)


def exchanged(wood):
    """The wood with left and right exchanged at each node."""
    check_wood(wood)
    return ("wood", wood[1], tuple([(letter, right, left) for letter, left, right in wood[2]]))
