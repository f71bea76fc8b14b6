"""Points formulas: what they are, where they hold on a wood, denied, unrolled."""

from allboughs.checks import is_number
from allboughs.errors import BadPoints, NoName, TooMany
from allboughs.pointsets import Meaning, Shapes, nodes_in
from allboughs.woods import check_wood
from allboughs.words import is_name

MOST_NODES = 4000
TOO_MANY_NODES = 4001
MOST_DEEP = 60
MOST_NAMES = 3

BINDERS = ("least", "most")
JOINTS = ("both", "either")
MARKS = ("mark", "bare")
DENIED = {
    "yes": "no", "no": "yes", "mark": "bare", "bare": "mark", "both": "either", "either": "both", "least": "most",
    "most": "least",
}


def parts_of(points):
    """The formulas of which it is made."""
    if points[0] in JOINTS:
        return points[1:]
    return points[2:] if points[0] == "next" or points[0] in BINDERS else ()


def bound_in(part, bound):
    """Which points may stand in the part of a next, least or most: those for which there is a next since bound.

    bound tells this of the points that are bound around it; None if it does not look like one of these.
    """
    if part[0] == "next":
        return {name: True for name in bound} if is_number(part[1], 2) else None
    return {**bound, part[1]: False} if is_name(part[1]) else None


def counted(part, deep, bound, names):
    """How many nodes a value has as a points formula no deeper than told; the names of its marks are added to a dict.

    It is TOO_MANY_NODES if it is no such formula. The value may be as deep as it likes, and may be a small thing with
    endless many nodes as they are counted, so no more of it is looked at than a formula has.
    """
    if not isinstance(part, tuple) or not part or not isinstance(part[0], str):
        return TOO_MANY_NODES
    word = part[0]
    if len(part) == 3 and deep > 1:
        if word in JOINTS:
            nodes = 1 + counted(part[1], deep - 1, bound, names)
            return nodes if nodes > MOST_NODES else nodes + counted(part[2], deep - 1, bound, names)
        inner = bound_in(part, bound) if word == "next" or word in BINDERS else None
        return TOO_MANY_NODES if inner is None else 1 + counted(part[2], deep - 1, inner, names)
    if len(part) == 2 and is_name(part[1]):
        if word in MARKS:
            names[part[1]] = True
            return 1
        return 1 if word == "point" and bound.get(part[1], False) else TOO_MANY_NODES
    return 1 if len(part) == 1 and (word == "yes" or word == "no") else TOO_MANY_NODES


def is_points(thing):
    """Whether a value of any kind is a points formula."""
    names = {}
    return counted(thing, MOST_DEEP, {}, names) <= MOST_NODES and len(names) <= MOST_NAMES


def check_points(points):
    """Raise BadPoints for what is no points formula."""
    if not is_points(points):
        raise BadPoints("not a points formula")


def marks_in(points):
    """The scope of the names of the marks of what is known to be a points formula."""
    names = {}
    todo = [points]
    while todo:
        part = todo.pop()
        if part[0] in MARKS:
            names[part[1]] = True
        todo.extend(parts_of(part))
    return tuple(sorted(names))


def marks_of(points):
    """The scope of the names of the marks of a points formula."""
    check_points(points)
    return marks_in(points)


def check_names(scope, wood):
    """Raise the errors for what is no wood, or has not all names of the scope."""
    check_wood(wood)
    for name in scope:
        if name not in wood[1]:
            raise NoName(name)


def nodes_of(points, wood):
    """The nodes of a wood at which a points formula holds."""
    check_points(points)
    check_names(marks_in(points), wood)
    return nodes_in(Meaning(wood[2]).mask(Shapes().shape(points, ())))


def contrary_of(points):
    """The points formula that holds at all other places."""
    word = points[0]
    told = DENIED.get(word, word)
    if word in JOINTS:
        return (told, contrary_of(points[1]), contrary_of(points[2]))
    if word == "next" or word in BINDERS:
        return (told, points[1], contrary_of(points[2]))
    return (told, *points[1:])


def denied(points):
    """The points formula that holds at all places at which this one does not."""
    check_points(points)
    return contrary_of(points)


def size_with(part, name, nodes, deep):
    """How many nodes a formula has, and how deep it is, with so large a formula in the place of each point."""
    if part[0] == "point":
        return (nodes, deep) if part[1] == name else (1, 1)
    inner = None if part[0] in BINDERS and part[1] == name else name
    sizes = [size_with(below, inner, nodes, deep) for below in parts_of(part)]
    return 1 + sum([many for many, _ in sizes]), 1 + max([most for _, most in sizes], default=0)


def with_point(part, name, whole):
    """The formula with the whole one in the place of each point of this name that is not bound anew."""
    if part[0] == "point" and part[1] == name:
        return whole
    if part[0] in BINDERS and part[1] == name:
        return part
    if part[0] in JOINTS:
        return (part[0], with_point(part[1], name, whole), with_point(part[2], name, whole))
    if part[0] == "next" or part[0] in BINDERS:
        return (part[0], part[1], with_point(part[2], name, whole))
    return part


def unrolled(points):
    """What a least or most says of its point, with the whole formula in the place of that."""
    check_points(points)
    if points[0] not in BINDERS:
        raise BadPoints("begins neither with least nor with most")
    _, name, inner = points
    nodes, deep = size_with(points, None, 0, 0)
    many, most = size_with(inner, name, nodes, deep)
    if many > MOST_NODES:
        raise TooMany(MOST_NODES)
    if most > MOST_DEEP:
        raise TooMany(MOST_DEEP)
    return with_point(inner, name, points)
