"""Formulas, long ones with shorts as further atoms, and sentences."""

from allboughs.errors import BadFormula
from allboughs.shortforms import looks_short
from allboughs.words import is_name

MOST_NODES = 100
MOST_FREE = 3

OF_TWO = ("sub", "left", "right")
JOINTS = ("both", "either")
BINDERS = ("some", "all")


def is_form(part, wide):
    """Whether it looks like a node of a formula, whatever its parts are; wide ones may be shorts."""
    if not isinstance(part, tuple) or not part or not isinstance(part[0], str):
        return False
    word = part[0]
    if word in OF_TWO:
        return len(part) == 3 and is_name(part[1]) and is_name(part[2])
    if word == "root":
        return len(part) == 2 and is_name(part[1])
    if word == "not":
        return len(part) == 2
    if word in JOINTS:
        return len(part) == 3
    if word in BINDERS:
        return len(part) == 3 and is_name(part[1])
    return wide and looks_short(part)


def parts_of(formula):
    """The formulas of which it is made, none for an atom."""
    if formula[0] in JOINTS:
        return formula[1:]
    if formula[0] in BINDERS:
        return formula[2:]
    return formula[1:] if formula[0] == "not" else ()


def scope_of_names(names):
    """The scope of one name or two."""
    if len(names) == 1 or names[0] < names[1]:
        return names
    return names[:1] if names[0] == names[1] else (names[1], names[0])


def free_in(formula):
    """The scope of the free names; None if the formula, or one in it, has more than 3 of them."""
    word = formula[0]
    if word == "not":
        return free_in(formula[1])
    if word in JOINTS:
        one = free_in(formula[1])
        other = free_in(formula[2])
        if one is None or other is None or one == other:
            return one if other is not None else None
        scope = tuple(sorted(set(one + other)))
        return scope if len(scope) <= MOST_FREE else None
    if word in BINDERS:
        scope = free_in(formula[2])
        if scope is None or formula[1] not in scope:
            return scope
        return tuple([name for name in scope if name != formula[1]])
    return scope_of_names(formula[1:])


def nodes_below(thing, wide):
    """How many nodes a formula has; None if the value does not look like one, or has too many."""
    todo = [thing]
    nodes = 0
    while todo:
        part = todo.pop()
        nodes += 1
        if nodes > MOST_NODES or not is_form(part, wide):
            return None
        todo.extend(parts_of(part))
    return nodes


def scoped_joint(thing, wide, room):
    """The same as scoped for what begins with both or either and has two parts."""
    one = scoped(thing[1], wide, room)
    if one is None:
        return None
    other = scoped(thing[2], wide, room)
    if other is None:
        return None
    if one[1] == other[1]:
        return (thing[0], one[1], one, other)
    scope = tuple(sorted(set(one[1] + other[1])))
    return (thing[0], scope, one, other) if len(scope) <= MOST_FREE else None


def scoped(thing, wide, room):
    """A formula with the scope of its free names behind each word in it, None for a value that is none.

    Atoms stay whole, wide formulas may have shorts, and the names that some and all bind stand last. room is a list
    with the number of nodes that it may still have; no more of it is looked at.
    """
    room[0] -= 1
    if room[0] < 0 or not is_form(thing, wide):
        return None
    word = thing[0]
    if word in JOINTS:
        return scoped_joint(thing, wide, room)
    if word != "not" and word not in BINDERS:
        return (word, scope_of_names(thing[1:]), thing)
    part = scoped(thing[-1], wide, room)
    if part is None:
        return None
    if word == "not":
        return (word, part[1], part)
    scope = part[1]
    if thing[1] in scope:
        scope = tuple([name for name in scope if name != thing[1]])
    return (word, scope, part, thing[1])


def tree_of(thing):
    """A formula, perhaps a long one, as scoped tells it, None for a value that is none."""
    return scoped(thing, True, [MOST_NODES])


def tree_of_no_long(thing):
    """A formula without shorts as scoped tells it, None for a value that is none."""
    return scoped(thing, False, [MOST_NODES])


def is_formula(thing):
    """Whether a value of any kind is a formula, no long one."""
    return tree_of_no_long(thing) is not None


def is_long(thing):
    """Whether a value of any kind is a formula in which shorts may stand as atoms."""
    return tree_of(thing) is not None


def check_formula(formula):
    """Raise BadFormula for what is no formula, not even a long one; told is it as scoped tells it."""
    tree = tree_of(formula)
    if tree is None:
        raise BadFormula("not a formula")
    return tree


def check_no_long(formula):
    """Raise BadFormula for what is no formula, or a long one; told is it as scoped tells it."""
    tree = tree_of_no_long(formula)
    if tree is None:
        raise BadFormula("not a formula without shorts")
    return tree


def is_sentence(thing):
    """Whether a value of any kind is a formula, perhaps a long one, without free names."""
    tree = tree_of(thing)
    return tree is not None and tree[1] == ()


def free_names(formula):
    """The scope of the free names of a formula, perhaps a long one."""
    return check_formula(formula)[1]


def size_of(formula):
    """The number of nodes of a formula, perhaps a long one."""
    check_formula(formula)
    return nodes_below(formula, True)
