"""Shorts: shorthand for what formulas can say, what it means on a wood, and machines for it made by hand."""

from allboughs.conditions import NO, YES, to_both
from allboughs.errors import BadShort, NoName
from allboughs.shortforms import looks_short
from allboughs.shortmeanings import MEANINGS
from allboughs.woods import check_wood, letters_of, walked

RANKS = {
    "again": (1, 2), "apart": (0,), "bare": (0,), "below": (0, 0), "closed": (0, 0), "every": (1,), "finite": (1, 0),
    "first": (0, 0), "often": (1, 2), "one": (1, 0), "road": (0, 0), "same": (0,), "thread": (0, 0),
}


def is_short(thing):
    """Whether a value of any kind is a short."""
    return looks_short(thing)


def check_short(short):
    """Raise BadShort for what is no short."""
    if not is_short(short):
        raise BadShort("not a short")


def scope_of(short):
    """The scope of the names of a short."""
    return tuple(sorted(set(short[1:])))


def meant(short, wood):
    """Whether a short holds on a wood."""
    check_short(short)
    check_wood(wood)
    for name in scope_of(short):
        if name not in wood[1]:
            raise NoName(name)
    meaning = MEANINGS[short[0]]
    return meaning(walked(wood[2], 0), short[1], short[-1])


def fork(one, other):
    """The condition to go to the one state on one way and to the other one on the other way."""
    return ("either", to_both(one, other), to_both(other, one))


def clear(state, x, y):
    """The condition that says that there is no x from here on, where 1 is the state that goes on with it."""
    return NO if x else to_both(1, 1)


def bare(state, x, y):
    """The condition of ("bare", x)."""
    return NO if x else to_both(0, 0)


def same(state, x, y):
    """The condition of ("same", x, y)."""
    return to_both(0, 0) if x == y else NO


def apart(state, x, y):
    """The condition of ("apart", x, y)."""
    return NO if x and y else to_both(0, 0)


def closed(state, x, y):
    """The condition of ("closed", x)."""
    if x:
        return to_both(1, 1)
    return to_both(0, 0) if state == 0 else NO


def below(state, x, y):
    """The condition of ("below", x, y)."""
    if state == 1:
        return to_both(1, 1) if y else NO
    if x != y:
        return NO
    return to_both(1, 1) if x else to_both(0, 0)


def first(state, x, y):
    """The condition of ("first", x, y)."""
    if state == 1:
        return NO if y else to_both(1, 1)
    return below(state, x, y)


def thread(state, x, y):
    """The condition of ("thread", x)."""
    if x:
        return fork(1, 0)
    return to_both(0, 0) if state == 0 else NO


def road(state, x, y):
    """The condition of ("road", x)."""
    if state == 1:
        return clear(state, x, y)
    return fork(0, 1) if x else NO


def one_place(state, x, y):
    """The condition of ("one", x)."""
    if state == 1:
        return clear(state, x, y)
    return to_both(1, 1) if x else fork(0, 1)


def finite(state, x, y):
    """The condition of ("finite", x)."""
    if state == 1:
        return clear(state, x, y)
    return ("either", to_both(0, 0), to_both(1, 1))


def every(state, x, y):
    """The condition of ("every", x)."""
    return YES if x else to_both(0, 0)


def often(state, x, y):
    """The condition of ("often", x)."""
    return to_both(1, 1) if x else to_both(0, 0)


def again(state, x, y):
    """The condition of ("again", x)."""
    goal = 1 if x else 0
    return ("either", ("go", 0, goal), ("go", 1, goal))


CONDITIONS = {
    "again": again,
    "apart": apart,
    "bare": bare,
    "below": below,
    "closed": closed,
    "every": every,
    "finite": finite,
    "first": first,
    "often": often,
    "one": one_place,
    "road": road,
    "same": same,
    "thread": thread,
}


def hand(short):
    """The machine of at most two states that lets a wood by exactly if the short holds."""
    check_short(short)
    word = short[0]
    scope = scope_of(short)
    condition = CONDITIONS[word]
    rows = []
    for state, rank in enumerate(RANKS[word]):
        row = [condition(state, short[1] in letter, short[-1] in letter) for letter in letters_of(scope)]
        rows.append((rank, tuple(row)))
    return ("machine", scope, tuple(rows))
