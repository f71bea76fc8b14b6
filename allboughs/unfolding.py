"""Machines of few states unfolded to points formulas."""

from allboughs.conditions import is_joint
from allboughs.errors import TooMany
from allboughs.points import MOST_DEEP, MOST_NODES

NAMES = ("pa", "pb", "pc", "pd")
BINDERS = ("most", "least")
YES = ("yes",)
NO = ("no",)


class Grown:
    """A points formula with its nodes, its depth, and the states of which it has points that it does not bind."""

    def __init__(self, formula, nodes, deep, open_states):
        """Keep all four; open_states is an ascending tuple."""
        self.formula = formula
        self.nodes = nodes
        self.deep = deep
        self.open_states = open_states


def leaf(formula):
    """What has no points."""
    return Grown(formula, 1, 1, ())


def under(word, what, part):
    """A formula of a word, what stands behind it, and one part."""
    return Grown((word, what, part.formula), part.nodes + 1, part.deep + 1, part.open_states)


def joined(word, one, other):
    """Two formulas joined by a word, without what says nothing."""
    ending, idle = (NO, YES) if word == "both" else (YES, NO)
    for here, beside in ((one, other), (other, one)):
        if here.formula == ending:
            return here
        if here.formula == idle:
            return beside
    open_states = tuple(sorted(set(one.open_states + other.open_states)))
    formula = (word, one.formula, other.formula)
    return Grown(formula, one.nodes + other.nodes + 1, max(one.deep, other.deep) + 1, open_states)


class Unfolding:
    """Unfolds a machine, told its scope and its states.

    A formula of a state that stands within those of other states has a point in the place of each of them, as long
    as no state of a greater rank came between. So who comes to a point again and again comes to its state, and to
    none of a greater rank: it is bound by least if its rank is odd, otherwise by most.
    """

    def __init__(self, scope, rows):
        """Begin with nothing unfolded."""
        self.scope = scope
        self.rows = rows
        self.known = {}

    def told_points(self):
        """The formula of the first state."""
        told = self.of_state(0, ())
        if told.nodes > MOST_NODES:
            raise TooMany(MOST_NODES)
        if told.deep > MOST_DEEP:
            raise TooMany(MOST_DEEP)
        return told.formula

    def of_state(self, at, around):
        """The formula of a state within those of the states around, an ascending tuple."""
        if at in around:
            return Grown(("point", NAMES[at]), 1, 1, (at,))
        key = (at, around)
        if key not in self.known:
            rank, conditions = self.rows[at]
            inner = tuple(sorted([at] + [one for one in around if self.rows[one][0] >= rank]))
            told = self.by_letters(conditions, len(self.scope), inner)
            if at in told.open_states:
                told = under(BINDERS[rank % 2], NAMES[at], told)
                told.open_states = tuple([one for one in told.open_states if one != at])
            self.known[key] = told
        return self.known[key]

    def by_letters(self, conditions, many, around):
        """What conditions for the letters of the first so many names say, told the states around."""
        if many == 0:
            return self.of_condition(conditions[0], around)
        half = len(conditions) // 2
        without = self.by_letters(conditions[:half], many - 1, around)
        if conditions[:half] == conditions[half:]:
            return without
        name = self.scope[many - 1]
        marked = joined("both", leaf(("mark", name)), self.by_letters(conditions[half:], many - 1, around))
        return joined("either", marked, joined("both", leaf(("bare", name)), without))

    def of_condition(self, condition, around):
        """What a condition says, told the states around."""
        if condition[0] == "go":
            return under("next", condition[1], self.of_state(condition[2], around))
        if is_joint(condition):
            first = self.of_condition(condition[1], around)
            return joined(condition[0], first, self.of_condition(condition[2], around))
        return leaf(condition)
