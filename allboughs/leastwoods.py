"""All small woods in order, and the first one on which two formulas part."""

from allboughs.checks import is_number
from allboughs.compiling import build_machine
from allboughs.deciding import cut_down, scope_of_both
from allboughs.errors import BadMany, BadScope, TooMany
from allboughs.formulas import check_no_long
from allboughs.playing import lets_marks_by
from allboughs.woods import is_scope, least_rows, letters_of, walked

MOST_NODES = 3
MOST_WOODS = 6000


def goals_of_woods(many):
    """All rows of pairs of goals of so many nodes that are numbered as a walk meets them."""
    pairs = [(left, right) for left in range(many) for right in range(many)]
    told = [()]
    for _ in range(many):
        told = [goals + (pair,) for goals in told for pair in pairs]
    rows = [tuple([((), left, right) for left, right in goals]) for goals in told]
    return [goals for goals, row in zip(told, rows) if walked(row, 0) == row]


def check_many(scope, many):
    """Raise the errors for no number from 1 to 3, and for too many woods of so many nodes."""
    if not is_number(many, MOST_NODES + 1) or many == 0:
        raise BadMany("not a number from 1 to 3")
    woods = len(goals_of_woods(many))
    for _ in range(many):
        woods *= len(letters_of(scope))
    if woods > MOST_WOODS:
        raise TooMany(MOST_WOODS)


def small_woods(scope, many):
    """The list of all woods of what is known to be a scope with so many nodes, ascending."""
    marks = [()]
    for _ in range(many):
        marks = [row + (letter,) for row in marks for letter in letters_of(scope)]
    rows = []
    for goals in goals_of_woods(many):
        for row in marks:
            rows.append(tuple([(letter, left, right) for letter, (left, right) in zip(row, goals)]))
    return [("wood", scope, row) for row in sorted(rows)]


def woods_of(scope, many):
    """The list of all woods of a scope with just so many nodes that are numbered as a walk meets them, ascending."""
    if not is_scope(scope):
        raise BadScope("not a scope")
    check_many(scope, many)
    return small_woods(scope, many)


class Judge:
    """Tells on which woods a formula holds; woods that are alike for it are asked about once."""

    def __init__(self, formula):
        """Make its machine."""
        self.machine = build_machine(formula)
        self.known = {}

    def holds_on(self, wood):
        """Whether it holds on a wood that has all its names."""
        marks = cut_down(wood, self.machine[1])
        if marks[2] not in self.known:
            self.known[marks[2]] = lets_marks_by(self.machine, marks)
        return self.known[marks[2]]


def least_parting(one, other, most):
    """The first wood of at most so many nodes on which just one of two formulas holds; None if there is none."""
    check_no_long(one)
    check_no_long(other)
    scope = scope_of_both(one, other)
    check_many(scope, most)
    mine = Judge(one)
    theirs = Judge(other)
    for many in range(1, most + 1):
        for wood in small_woods(scope, many):
            # On a wood that is not a least one they part only if they did on one of fewer nodes.
            if least_rows(wood[2], many) == wood[2] and mine.holds_on(wood) != theirs.holds_on(wood):
                return wood
    return None
