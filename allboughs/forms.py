"""Forms of formulas: not at atoms alone, all binders in front or far within, and what speaks of parts of a set."""

from allboughs.errors import BadName, BadScope, TooMany
from allboughs.formulas import BINDERS, JOINTS, MOST_FREE, MOST_NODES, check_no_long, free_in, nodes_below
from allboughs.naming import bound_in, names_but
from allboughs.words import is_name

CONTRARIES = {"both": "either", "either": "both", "some": "all", "all": "some"}
# The joint both of whose parts a binder goes to.
SPREADS = {"some": "either", "all": "both"}


def push(formula, contrary):
    """The formula, or its contrary, with not at atoms alone."""
    word = formula[0]
    if word == "not":
        return push(formula[1], not contrary)
    told = CONTRARIES.get(word, word) if contrary else word
    if word in JOINTS:
        return (told, push(formula[1], contrary), push(formula[2], contrary))
    if word in BINDERS:
        return (told, formula[1], push(formula[2], contrary))
    return ("not", formula) if contrary else formula


def check_nodes(formula):
    """Raise TooMany for what would be a formula if it had fewer nodes."""
    if nodes_below(formula, False) is None:
        raise TooMany(MOST_NODES)


def pushed(formula):
    """The formula in which not stands at atoms alone."""
    check_no_long(formula)
    told = push(formula, False)
    check_nodes(told)
    return told


def count_blocks(formula):
    """The blocks of a pushed formula."""
    word = formula[0]
    if word in JOINTS:
        one = count_blocks(formula[1])
        other = count_blocks(formula[2])
        return (max(one[0], other[0]), max(one[1], other[1]))
    if word in BINDERS:
        some_first, all_first = count_blocks(formula[2])
        if word == "some":
            fewest = max(1, min(some_first, all_first + 1))
            return (fewest, fewest + 1)
        fewest = max(1, min(all_first, some_first + 1))
        return (fewest + 1, fewest)
    return (0, 0)


def blocks(formula):
    """How many rows of some and all side by side stand in front at least: if some comes first, and if all does."""
    check_no_long(formula)
    return count_blocks(push(formula, False))


class Apart:
    """Gives each bound set of a formula a name of its own, its old one where no other set has it yet."""

    def __init__(self, formula):
        """Begin with the free names; new names are none that stand in the formula."""
        free = free_in(formula)
        self.used = {name: True for name in free}
        self.fresh = names_but(list(free) + bound_in(formula))

    def named(self, formula, new):
        """The formula with names of their own, where new tells those of the sets that are bound around it."""
        word = formula[0]
        if word in BINDERS:
            name = self.fresh.pop(0) if formula[1] in self.used else formula[1]
            self.used[name] = True
            inner = {old: new[old] for old in new}
            inner[formula[1]] = name
            return (word, name, self.named(formula[2], inner))
        if word in JOINTS:
            first = self.named(formula[1], new)
            return (word, first, self.named(formula[2], new))
        if word == "not":
            return (word, self.named(formula[1], new))
        return (word, *[new.get(name, name) for name in formula[1:]])


def pull(formula, word):
    """The names that this word binds in front or behind joints, and the formula without these binders."""
    if formula[0] == word:
        names, rest = pull(formula[2], word)
        return [formula[1]] + names, rest
    if formula[0] in JOINTS:
        names, first = pull(formula[1], word)
        more, second = pull(formula[2], word)
        return names + more, (formula[0], first, second)
    return [], formula


def front(formula):
    """A formula that means the same, with all binders in front, in as few rows of one kind as blocks tells."""
    check_no_long(formula)
    binders = bound_in(formula)
    if len(free_in(formula)) + len(binders) > MOST_FREE:
        raise TooMany(MOST_FREE)
    told = push(formula, False)
    check_nodes(told)
    some_first, all_first = count_blocks(told)
    word = "some" if some_first <= all_first else "all"
    rest = Apart(told).named(told, {})
    rows = []
    while len(rows) < len(binders):
        names, rest = pull(rest, word)
        rows.extend([(word, name) for name in names])
        word = CONTRARIES[word]
    for binder, name in rows[::-1]:
        rest = (binder, name, rest)
    return rest


def sink(word, name, formula):
    """The formula with a binder in front of it, which has gone within as far as it can."""
    if name not in free_in(formula):
        return formula
    if formula[0] in JOINTS:
        joint, first, second = formula
        if joint == SPREADS[word]:
            return (joint, sink(word, name, first), sink(word, name, second))
        if name not in free_in(first):
            return (joint, first, sink(word, name, second))
        if name not in free_in(second):
            return (joint, sink(word, name, first), second)
    return (word, name, formula)


def sink_all(formula):
    """A pushed formula all of whose binders have gone within as far as they can, the innermost ones first."""
    if formula[0] in BINDERS:
        return sink(formula[0], formula[1], sink_all(formula[2]))
    if formula[0] in JOINTS:
        return (formula[0], sink_all(formula[1]), sink_all(formula[2]))
    return formula


def inward(formula):
    """The pushed formula whose binders have gone within as far as they can."""
    told = sink_all(pushed(formula))
    check_nodes(told)
    return told


def parts_within(formula, name):
    """The formula in which each bound set is said to be part of the set of this name."""
    word = formula[0]
    if word == "some":
        return (word, formula[1], ("both", ("sub", formula[1], name), parts_within(formula[2], name)))
    if word == "all":
        outside = ("not", ("sub", formula[1], name))
        return (word, formula[1], ("either", outside, parts_within(formula[2], name)))
    if word in JOINTS:
        return (word, parts_within(formula[1], name), parts_within(formula[2], name))
    if word == "not":
        return (word, parts_within(formula[1], name))
    return formula


def relative(formula, name):
    """The formula in which some and all speak of parts of the set of a name alone."""
    check_no_long(formula)
    if not is_name(name) or name in bound_in(formula):
        raise BadName("not a name, or bound in the formula")
    told = parts_within(formula, name)
    if free_in(told) is None:
        raise BadScope("a formula with more than 3 free names")
    check_nodes(told)
    return told
