"""Pumping: the state that a guide gives to a place, and a piece of a road laid in for ever."""

from allboughs.errors import BadGuide, BadPlace
from allboughs.grafting import check_size
from allboughs.guides import check_fit, is_guide
from allboughs.woods import check_place, check_wood, walked


def state_at(choices, wood, guide, place):
    """The state that the run of a guide gives to a place."""
    check_fit(choices, wood)
    if not is_guide(choices, wood, guide):
        raise BadGuide("not a guide")
    check_place(place)
    pairs = {spot: pair for spot, pair in guide}
    node = 0
    state = 0
    for way in place:
        pair = pairs[(node, state)]
        node = wood[2][node][1 + way]
        state = pair[way]
    return state


def looped(wood, high, low):
    """The wood in which at the place low there is again the tree that now stands at high, for ever."""
    check_wood(wood)
    check_place(high)
    check_place(low)
    if len(low) <= len(high) or low[:len(high)] != high:
        raise BadPlace("not below the place high")
    mine = wood[2]
    # Behind the nodes of the wood stand the beginnings of low, from the root on.
    rows = list(mine)
    node = 0
    for at, way in enumerate(low):
        letter, left, right = mine[node]
        onward = len(mine) + (at + 1 if at + 1 < len(low) else len(high))
        rows.append((letter, left, onward) if way else (letter, onward, right))
        node = right if way else left
    told = walked(rows, len(mine))
    check_size(told)
    return ("wood", wood[1], told)
