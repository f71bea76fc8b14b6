"""Formulas with other names, and with left and right exchanged."""

from allboughs.checks import ascends, is_row
from allboughs.errors import BadNames
from allboughs.formulas import BINDERS, check_no_long, free_in, parts_of
from allboughs.words import is_name

SIGNS = "abcdefghijklmnopqrstuvwxyz"
MIRROR = {"left": "right", "right": "left"}


def bound_in(formula):
    """The names that stand bound in a formula, as often as they do, from left to right."""
    names = [formula[1]] if formula[0] in BINDERS else []
    for part in parts_of(formula):
        names.extend(bound_in(part))
    return names


def with_names(formula, new):
    """The formula with its free names exchanged: new tells some of them, all others stay."""
    if formula[0] in BINDERS:
        inner = {name: new[name] for name in new if name != formula[1]}
        return (formula[0], formula[1], with_names(formula[2], inner))
    parts = parts_of(formula)
    if not parts:
        return (formula[0], *[new.get(name, name) for name in formula[1:]])
    return (formula[0], *[with_names(part, new) for part in parts])


def are_exchanges(thing, free, bound):
    """Whether it is an ascending tuple of pairs of names, told which names of the formula are free, which bound."""
    if not isinstance(thing, tuple) or not all(is_row(pair, 2, 2) for pair in thing):
        return False
    if not all(is_name(name) for pair in thing for name in pair) or not ascends(thing):
        return False
    old = [name for name, _ in thing]
    new = [name for _, name in thing]
    if len(set(old)) < len(old) or len(set(new)) < len(new) or not all(name in free for name in old):
        return False
    return not any(name in bound or name in free and name not in old for name in new)


def renamed(formula, pairs):
    """The formula with free names exchanged at once."""
    check_no_long(formula)
    if not are_exchanges(pairs, free_in(formula), bound_in(formula)):
        raise BadNames("not pairs of free names and new ones")
    return with_names(formula, {name: new for name, new in pairs})


def names_but(taken):
    """The first names, in the sequence a to z, aa to zz, that are neither taken nor kept words.

    No formula has as many binders as there are of them: those of two letters that begin with a to d are enough.
    """
    known = list(SIGNS) + [first + second for first in SIGNS[:4] for second in SIGNS]
    return [name for name in known if name not in taken and is_name(name)]


def name_plainly(formula, new, names, deep):
    """The formula, which stands within so many binders, with bound names told by names; new tells those around it."""
    if formula[0] in BINDERS:
        inner = {name: new[name] for name in new}
        inner[formula[1]] = names[deep]
        return (formula[0], names[deep], name_plainly(formula[2], inner, names, deep + 1))
    parts = parts_of(formula)
    if not parts:
        return (formula[0], *[new.get(name, name) for name in formula[1:]])
    return (formula[0], *[name_plainly(part, new, names, deep) for part in parts])


def plain_twin(formula):
    """The plainly named twin of what is known to be a formula."""
    return name_plainly(formula, {}, names_but(free_in(formula)), 0)


def plainly_named(formula):
    """The twin in which a set bound within so many binders has the name with this number of those not free."""
    check_no_long(formula)
    return plain_twin(formula)


def is_twin(one, other):
    """Whether two formulas are one but for the names of bound sets."""
    check_no_long(one)
    check_no_long(other)
    return plain_twin(one) == plain_twin(other)


def mirror(formula):
    """What is known to be a formula with left and right exchanged."""
    parts = parts_of(formula)
    if not parts:
        return (MIRROR.get(formula[0], formula[0]), *formula[1:])
    if formula[0] in BINDERS:
        return (formula[0], formula[1], mirror(formula[2]))
    return (formula[0], *[mirror(part) for part in parts])


def mirrored(formula):
    """The formula with left and right exchanged in all atoms."""
    check_no_long(formula)
    return mirror(formula)
