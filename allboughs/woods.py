"""Scopes, letters, places, and woods: endless trees with marks, told by nodes."""

from allboughs.checks import ascends, is_headed, is_number, is_pairs, is_row
from allboughs.errors import BadPlace, BadScope, BadWood, OtherScope
from allboughs.words import is_name

MOST_NODES = 400


def is_scope(thing):
    """Whether a value of any kind is a scope."""
    return is_row(thing, 0, 3) and all(is_name(name) for name in thing) and ascends(thing)


def letters_of(scope):
    """The letters of what is known to be a scope: those without its last name, then those with it."""
    told = [()]
    for name in scope:
        told = told + [letter + (name,) for letter in told]
    return tuple(told)


def letters(scope):
    """The tuple of the letters of a scope, in their order."""
    if not is_scope(scope):
        raise BadScope("not a scope")
    return letters_of(scope)


def is_node(thing, known, many):
    """Whether it is a node with one of the known letters that leads to two of so many nodes."""
    if not isinstance(thing, tuple) or len(thing) != 3:
        return False
    letter, left, right = thing
    if not isinstance(letter, tuple):
        return False
    for name in letter:
        if not isinstance(name, str):
            return False
    return letter in known and is_number(left, many) and is_number(right, many)


def is_wood(thing):
    """Whether a value of any kind is a wood."""
    if not is_headed(thing, "wood", 3) or not is_scope(thing[1]):
        return False
    rows = thing[2]
    if not is_row(rows, 1, MOST_NODES):
        return False
    known = letters_of(thing[1])
    for row in rows:
        if not is_node(row, known, len(rows)):
            return False
    return True


def check_wood(wood):
    """Raise BadWood for what is no wood."""
    if not is_wood(wood):
        raise BadWood("not a wood")


def check_place(place):
    """Raise BadPlace for what is no place."""
    if not isinstance(place, tuple) or not all(is_number(way, 2) for way in place):
        raise BadPlace("not a place")


def check_both(one, other):
    """Raise the errors of functions of two woods of one scope."""
    check_wood(one)
    check_wood(other)
    if one[1] != other[1]:
        raise OtherScope("woods of unlike scopes")


def come_to(rows, place):
    """The number of the node to which the place leads."""
    node = 0
    for way in place:
        node = rows[node][1 + way]
    return node


def node_at(wood, place):
    """The number of the node of a wood to which a place leads."""
    check_wood(wood)
    check_place(place)
    return come_to(wood[2], place)


def walked(rows, start):
    """The nodes that can be come to from start, numbered as a walk first meets them, as rows of their own."""
    order = [start]
    numbers = {start: 0}
    at = 0
    while at < len(order):
        row = rows[order[at]]
        for goal in row[1:]:
            if goal not in numbers:
                numbers[goal] = len(order)
                order.append(goal)
        at += 1
    return tuple([(rows[node][0], numbers[rows[node][1]], numbers[rows[node][2]]) for node in order])


def within(wood, place):
    """The wood of the tree at a place of a wood."""
    check_wood(wood)
    check_place(place)
    return ("wood", wood[1], walked(wood[2], come_to(wood[2], place)))


def walked_together(mine, theirs):
    """Walk through two rows of nodes at once.

    Told are the pairs of nodes that were met, for each of them the number of the pair from which it was met
    first and the way from there, and the number of the first pair whose letters are unlike, or None: the walk
    ends with it.
    """
    pairs = [(0, 0)]
    origins = [(0, 0)]
    met = {(0, 0): True}
    at = 0
    while at < len(pairs):
        one, other = pairs[at]
        if mine[one][0] != theirs[other][0]:
            return pairs, origins, at
        for way in (0, 1):
            pair = (mine[one][1 + way], theirs[other][1 + way])
            if pair not in met:
                met[pair] = True
                pairs.append(pair)
                origins.append((at, way))
        at += 1
    return pairs, origins, None


def tie(one, other):
    """The tie of two woods with fewest pairs; None if they are not alike."""
    check_both(one, other)
    pairs, _, unlike = walked_together(one[2], other[2])
    return tuple(sorted(pairs)) if unlike is None else None


def is_tie(one, other, thing):
    """Whether a value of any kind is a tie of two woods."""
    check_both(one, other)
    mine = one[2]
    theirs = other[2]
    if not is_pairs(thing, len(mine), len(theirs)):
        return False
    held = {pair: True for pair in thing}
    return (0, 0) in held and all(
        mine[left][0] == theirs[right][0]
        and (mine[left][1], theirs[right][1]) in held
        and (mine[left][2], theirs[right][2]) in held
        for left, right in thing
    )


def parting(one, other):
    """None for two alike woods, otherwise the first place, shorter ones ahead, with unlike letters."""
    check_both(one, other)
    _, origins, unlike = walked_together(one[2], other[2])
    if unlike is None:
        return None
    place = []
    at = unlike
    while at > 0:
        at, way = origins[at]
        place.append(way)
    return tuple(place[::-1])


def sorted_out(rows, most):
    """The lot of each node, so that nodes are of one lot exactly if their trees are alike.

    None as soon as there are more lots than most.
    """
    lots = [0] * len(rows)
    many = 1
    while many <= most:
        numbers = {}
        signs = [(row[0], lots[at], lots[row[1]], lots[row[2]]) for at, row in enumerate(rows)]
        for sign in signs:
            numbers.setdefault(sign, len(numbers))
        lots = [numbers[sign] for sign in signs]
        if len(numbers) == many:
            return lots
        many = len(numbers)
    return None


def least_rows(rows, most):
    """The rows of the wood with fewest nodes that is alike to these rows; None if it has more than most."""
    kept = walked(rows, 0)
    lots = sorted_out(kept, most)
    if lots is None:
        return None
    fewer = {}
    for at, (letter, left, right) in enumerate(kept):
        fewer.setdefault(lots[at], (letter, lots[left], lots[right]))
    return walked(fewer, lots[0])


def least(wood):
    """The wood with fewest nodes that is alike to a wood."""
    check_wood(wood)
    return ("wood", wood[1], least_rows(wood[2], MOST_NODES))
