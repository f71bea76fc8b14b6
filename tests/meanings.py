"""Judges of formulas, written from the words of [52] and [67], and formulas made by chance."""

import itertools

from allboughs.shorts import is_short, meant
from tests.support import bits, some_wood_of

EMPTY_SCOPE = ("wood", (), (((), 0, 0),))


def reached(wood):
    """The nodes that stand at the root and at places below it."""
    met, todo = set(), [0]
    while todo:
        node = todo.pop()
        if node not in met:
            met.add(node)
            todo.extend(wood[2][node][1:])
    return met


def below(wood):
    """The nodes that stand at places other than the root."""
    return {goal for node in reached(wood) for goal in wood[2][node][1:]}


def children(wood, x, y, way):
    """Whether y has just the children of the places of x on this way."""
    rows = wood[2]
    if y in rows[0][0]:
        return False
    for node in reached(wood):
        letter, *goals = rows[node]
        if (y in rows[goals[way]][0]) != (x in letter) and goals[0] != goals[1]:
            return False
        if goals[0] == goals[1] and (x in letter or y in rows[goals[0]][0]):
            return False
        if y in rows[goals[1 - way]][0]:
            return False
    return True


def true_on(formula, wood):
    """Whether a formula without some and all holds on a wood."""
    word = formula[0]
    if is_short(formula):
        return meant(formula, wood)
    if word == "not":
        return not true_on(formula[1], wood)
    if word in ("both", "either"):
        join = all if word == "both" else any
        return join([true_on(part, wood) for part in formula[1:]])
    if word == "root":
        return formula[1] in wood[2][0][0] and not any(formula[1] in wood[2][node][0] for node in below(wood))
    if word == "sub":
        return all(formula[1] not in wood[2][node][0] or formula[2] in wood[2][node][0] for node in reached(wood))
    return children(wood, formula[1], formula[2], 0 if word == "left" else 1)


def free(formula):
    """The free names of a formula."""
    if formula[0] in ("some", "all"):
        return free(formula[2]) - {formula[1]}
    if formula[0] in ("not", "both", "either"):
        return set().union(*[free(part) for part in formula[1:]])
    return set(formula[1:])


def some_atom(chance, names):
    """An atom of some of the names."""
    word = chance.choice(("sub", "root", "left", "right"))
    return (word, *[chance.choice(names) for _ in range(1 if word == "root" else 2)])


def some_plain(chance, atoms, names, spoil=0.4):
    """A formula of so many atoms without some and all."""
    if atoms == 1:
        told = some_atom(chance, names)
    else:
        half = chance.randint(1, atoms - 1)
        told = (chance.choice(("both", "either")), some_plain(chance, half, names), some_plain(chance, atoms - half, names))
    return ("not", told) if chance.random() < spoil else told


def some_formula(chance, nodes, names):
    """A formula of about so many nodes, with some and all anywhere."""
    if nodes <= 1:
        return some_atom(chance, names)
    word = chance.choice(("not", "both", "either", "some", "all", "some", "all"))
    if word == "not":
        return (word, some_formula(chance, nodes - 1, names))
    if word in ("both", "either"):
        half = chance.randint(1, nodes - 1)
        return (word, some_formula(chance, half, names), some_formula(chance, nodes - 1 - half, names))
    return (word, chance.choice(names), some_formula(chance, nodes - 1, names))


def wood_for(chance, scope, most=4):
    """A wood of this scope with few nodes."""
    return some_wood_of(chance, tuple(sorted(scope)), chance.randint(1, most))


def all_woods(scope, many):
    """All woods of a scope with so many nodes, whatever their numbers are."""
    rows = list(itertools.product(bits(scope), range(many), range(many)))
    return [("wood", scope, told) for told in itertools.product(rows, repeat=many)]


def left_over(wood, scope):
    """The wood without the marks that are not in the scope."""
    rows = [(tuple(name for name in letter if name in scope), left, right) for letter, left, right in wood[2]]
    return ("wood", tuple(name for name in wood[1] if name in scope), tuple(rows))
