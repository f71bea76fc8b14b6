"""Shorts spelled out as formulas."""

from allboughs.errors import BadShort, TooMany
from allboughs.formulas import BINDERS, MOST_NODES, check_formula, nodes_below, parts_of
from allboughs.shortforms import looks_short

LETTERS = "abcdefghijklmnopqrstuvwxyz"


def within(way, u, v, k):
    """That the children of u on this way are in v, told by their set k."""
    return ("some", k, ("both", (way, u, k), ("sub", k, v)))


def free(u, v, k):
    """That u and v share no place: a set that is its own left children is bare."""
    return ("all", k, ("either", ("not", ("both", ("sub", k, u), ("sub", k, v))), ("left", k, k)))


def shut(u, k):
    """That with each place both its children are in u."""
    return ("both", within("left", u, u, k), within("right", u, u, k))


def lone(way, u, v, k, m):
    """That the children of u on this way are not in v."""
    return ("some", k, ("both", (way, u, k), free(k, v, m)))


def spun(u, k, m, n):
    """That with each place one of its children at least is in u."""
    none_in = ("both", lone("left", k, u, m, n), lone("right", k, u, m, n))
    return ("all", k, ("either", ("not", ("sub", k, u)), ("either", ("left", k, k), ("not", none_in))))


def held(u, k):
    """That the root is in u."""
    return ("some", k, ("both", ("root", k), ("sub", k, u)))


def all_with(name, said, then):
    """That each set for which something is said is as told then."""
    return ("all", name, ("either", ("not", said), then))


def bare(x, y, p, q, r, s):
    """The formula of ("bare", x)."""
    return ("left", x, x)


def one_place(x, y, p, q, r, s):
    """The formula of ("one", x)."""
    return ("both", ("not", ("left", x, x)), all_with(p, ("sub", p, x), ("either", ("left", p, p), ("sub", x, p))))


def same(x, y, p, q, r, s):
    """The formula of ("same", x, y)."""
    return ("both", ("sub", x, y), ("sub", y, x))


def apart(x, y, p, q, r, s):
    """The formula of ("apart", x, y)."""
    return free(x, y, p)


def closed(x, y, p, q, r, s):
    """The formula of ("closed", x)."""
    return shut(x, p)


def below(x, y, p, q, r, s):
    """The formula of ("below", x, y): y is the least closed set around x."""
    least = all_with(p, ("both", ("sub", x, p), shut(p, q)), ("sub", y, p))
    return ("both", ("both", ("sub", x, y), shut(y, p)), least)


def first(x, y, p, q, r, s):
    """The formula of ("first", x, y)."""
    around = all_with(p, ("both", ("sub", y, p), shut(p, q)), ("sub", x, p))
    inside = ("both", shut(p, q), ("both", within("left", x, p, q), within("right", x, p, q)))
    return ("both", ("both", ("sub", y, x), around), ("some", p, ("both", inside, free(p, y, q))))


def thread(x, y, p, q, r, s):
    """The formula of ("thread", x)."""
    return spun(x, p, q, r)


def road(x, y, p, q, r, s):
    """The formula of ("road", x): x is a least thread with the root."""
    inner = ("both", ("sub", p, x), ("both", held(p, q), spun(p, q, r, s)))
    return ("both", ("both", held(x, p), spun(x, p, q, r)), all_with(p, inner, ("sub", x, p)))


def finite(x, y, p, q, r, s):
    """The formula of ("finite", x): no thread goes on where x is below for ever."""
    away = all_with(q, ("both", shut(q, r), free(q, x, r)), free(q, p, r))
    return ("not", ("some", p, ("both", ("both", ("not", ("left", p, p)), spun(p, q, r, s)), away)))


def every(x, y, p, q, r, s):
    """The formula of ("every", x)."""
    return ("not", ("some", p, ("both", ("both", held(p, q), spun(p, q, r, s)), free(p, x, q))))


def often(x, y, p, q, r, s):
    """The formula of ("often", x)."""
    return ("all", p, ("either", ("left", p, p), ("either", ("not", spun(p, q, r, s)), ("not", free(p, x, q)))))


def again(x, y, p, q, r, s):
    """The formula of ("again", x): a part of x that is not bare, each place of which has another one below."""
    under = ("both", within("left", q, r, s), within("right", q, r, s))
    left_over = ("some", r, ("both", ("both", shut(r, s), free(r, p, s)), under))
    going_on = ("all", q, ("either", ("not", ("sub", q, p)), ("either", ("left", q, q), ("not", left_over))))
    return ("some", p, ("both", ("both", ("not", ("left", p, p)), ("sub", p, x)), going_on))


SPELLED = {
    "again": again,
    "apart": apart,
    "bare": bare,
    "below": below,
    "closed": closed,
    "every": every,
    "finite": finite,
    "first": first,
    "often": often,
    "one": one_place,
    "road": road,
    "same": same,
    "thread": thread,
}


def spell(short):
    """The formula of what is known to be a short."""
    names = [letter for letter in LETTERS if letter not in short[1:]]
    told = SPELLED[short[0]]
    return told(short[1], short[-1], names[0], names[1], names[2], names[3])


def spelled(short):
    """A formula that says the same as a short."""
    if not looks_short(short):
        raise BadShort("not a short")
    return spell(short)


def spell_all(formula):
    """The formula in which each short is spelled."""
    if looks_short(formula):
        return spell(formula)
    if formula[0] in BINDERS:
        return (formula[0], formula[1], spell_all(formula[2]))
    parts = parts_of(formula)
    return (formula[0], *[spell_all(part) for part in parts]) if parts else formula


def spelled_out(formula):
    """The formula, perhaps a long one, in which each short is spelled."""
    check_formula(formula)
    told = spell_all(formula)
    if nodes_below(told, False) is None:
        raise TooMany(MOST_NODES)
    return told
