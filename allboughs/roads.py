"""Roads formulas: what they are, and where they hold on a wood."""

from allboughs.checks import is_number
from allboughs.errors import BadRoads
from allboughs.points import check_names
from allboughs.pointsets import nodes_in
from allboughs.roadsets import LASTING, RoadSets
from allboughs.words import is_name

MOST_NODES = 60
MOST_NAMES = 3
MOST_QUANTIFIERS = 4
MOST_LASTING = 3

MARKS = ("mark", "bare")
JOINTS = ("both", "either")
QUANTIFIERS = ("some", "every")


def parts_of_saying(part):
    """The pairs (part, whether it is a telling) of what looks like a saying; None if it does not."""
    word = part[0]
    if word in MARKS:
        return [] if len(part) == 2 and is_name(part[1]) else None
    if word == "not" and len(part) == 2 or word in JOINTS and len(part) == 3:
        return [(below, False) for below in part[1:]]
    return [(part[1], True)] if word in QUANTIFIERS and len(part) == 2 else None


def parts_of_telling(part):
    """The pairs (part, whether it is a telling) of what looks like a telling; None if it does not."""
    word = part[0]
    if word == "here":
        return [(part[1], False)] if len(part) == 2 else None
    if word == "goes":
        return [] if len(part) == 2 and is_number(part[1], 2) else None
    fine = word in ("not", "next", "once", "ever") and len(part) == 2
    if fine or word in ("both", "either", "until") and len(part) == 3:
        return [(below, True) for below in part[1:]]
    return None


def parts_of(part, is_telling):
    """The pairs (part, whether it is a telling) of a value of any kind; None if it looks like no node of its kind."""
    if not isinstance(part, tuple) or not part or not isinstance(part[0], str):
        return None
    return parts_of_telling(part) if is_telling else parts_of_saying(part)


def is_roads(thing):
    """Whether a value of any kind is a roads formula.

    Each node is looked at with the number of the some or every in whose telling it stands, None if in none.
    """
    todo = [(thing, False, None)]
    names = {}
    lasting = []
    nodes = 0
    while todo:
        part, is_telling, owner = todo.pop()
        nodes += 1
        below = parts_of(part, is_telling)
        if nodes > MOST_NODES or below is None:
            return False
        if is_telling and part[0] in LASTING:
            lasting[owner] += 1
        elif not is_telling and part[0] in MARKS:
            names[part[1]] = True
        elif not is_telling and part[0] in QUANTIFIERS:
            owner = len(lasting)
            lasting.append(0)
        todo.extend([(one, kind, owner) for one, kind in below])
    return len(names) <= MOST_NAMES and len(lasting) <= MOST_QUANTIFIERS and max(lasting, default=0) <= MOST_LASTING


def check_roads(roads):
    """Raise BadRoads for what is no roads formula."""
    if not is_roads(roads):
        raise BadRoads("not a roads formula")


def marks_in(roads):
    """The scope of the names of what is known to be a roads formula."""
    names = {}
    todo = [(roads, False)]
    while todo:
        part, is_telling = todo.pop()
        if part[0] in MARKS:
            names[part[1]] = True
        todo.extend(parts_of(part, is_telling))
    return tuple(sorted(names))


def nodes_of_roads(roads, wood):
    """The nodes of a wood at which a roads formula holds."""
    check_roads(roads)
    check_names(marks_in(roads), wood)
    return nodes_in(RoadSets(wood[2]).mask(roads))
