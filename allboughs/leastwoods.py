"""All small woods in order, and the first one on which two formulas part."""

from allboughs.checks import is_number
from allboughs.compiling import machine_in
from allboughs.deciding import cut_down, scope_of_both
from allboughs.errors import BadMany, BadScope, TooMany
from allboughs.formulas import check_no_long
from allboughs.playing import lets_marks_by
from allboughs.woods import is_scope, least_rows, letters_of

MOST_NODES = 3
MOST_WOODS = 6000
# For each number of nodes how many rows of goals there are that are numbered as a walk meets them.
SHAPES = (0, 1, 12, 216)


def check_many(scope, many):
    """Raise the errors for no number from 1 to 3, and for too many woods of so many nodes."""
    if not is_number(many, MOST_NODES + 1) or many == 0:
        raise BadMany("not a number from 1 to 3")
    if SHAPES[many] << many * len(scope) > MOST_WOODS:
        raise TooMany(MOST_WOODS)


def goals_met(many, at, met):
    """The pairs of goals of the node with this number, with how many nodes are met then; so many are met ahead of it.

    Of so many nodes at all each has to be met before it is the turn of the node itself.
    """
    told = []
    for left in range(min(met + 1, many)):
        known = max(met, left + 1)
        for right in range(min(known + 1, many)):
            told.append((left, right, max(known, right + 1)))
    return [row for row in told if row[2] > min(at + 1, many - 1)]


def small_woods(scope, many):
    """The list of all woods of what is known to be a scope with so many nodes, ascending."""
    letters = sorted(letters_of(scope))
    begun = [((), 1)]
    for at in range(many):
        nodes = {}
        for met in range(1, many + 1):
            goals = goals_met(many, at, met)
            nodes[met] = [((letter, left, right), known) for letter in letters for left, right, known in goals]
        begun = [(rows + (node,), known) for rows, met in begun for node, known in nodes[met]]
    return [("wood", scope, rows) for rows, _ in begun]


def woods_of(scope, many):
    """The list of all woods of a scope with just so many nodes that are numbered as a walk meets them, ascending."""
    if not is_scope(scope):
        raise BadScope("not a scope")
    check_many(scope, many)
    return small_woods(scope, many)


class Judge:
    """Tells on which woods a formula holds; woods that are alike for it are asked about once."""

    def __init__(self, tree):
        """Make its machine."""
        self.machine = machine_in(tree)
        self.known = {}

    def holds_on(self, wood):
        """Whether it holds on a least wood that has all its names."""
        marks = wood if wood[1] == self.machine[1] else cut_down(wood, self.machine[1])
        if marks[2] not in self.known:
            self.known[marks[2]] = lets_marks_by(self.machine, marks)
        return self.known[marks[2]]


def least_parting(one, other, most):
    """The first wood of at most so many nodes on which just one of two formulas holds; None if there is none."""
    trees = [check_no_long(one), check_no_long(other)]
    scope = scope_of_both(trees[0], trees[1])
    check_many(scope, most)
    mine = Judge(trees[0])
    theirs = Judge(trees[1])
    if mine.machine == theirs.machine:
        return None
    for many in range(1, most + 1):
        for wood in small_woods(scope, many):
            # On a wood that is not a least one they part only if they did on one of fewer nodes.
            if least_rows(wood[2], many) == wood[2] and mine.holds_on(wood) != theirs.holds_on(wood):
                return wood
    return None
