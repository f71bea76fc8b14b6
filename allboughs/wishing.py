"""Woods for points formulas: one at whose root it holds, or a bar that shows that there is none."""

from allboughs.building import widened_draft
from allboughs.choices import told_choices
from allboughs.chosen import chosen_draft
from allboughs.deciding import told_apart
from allboughs.emptying import bar, some_wood
from allboughs.errors import BadScope
from allboughs.pointing import draft_of_points
from allboughs.points import MOST_NAMES, check_points, marks_in
from allboughs.pruning import pruned_draft


def choices_for(points):
    """The choices that let by just the trees at whose root a points formula holds."""
    check_points(points)
    return told_choices(pruned_draft(chosen_draft(draft_of_points(points))))


def wood_for(points):
    """A wood at whose root a points formula holds; None if there is none."""
    return some_wood(choices_for(points))


def bar_for(points):
    """A bar of the choices for a points formula; None if there is a wood for it."""
    return bar(choices_for(points))


def points_parted(one, other):
    """None if two points formulas hold at the same places, otherwise a wood at whose root just one of them holds."""
    check_points(one)
    check_points(other)
    scope = tuple(sorted(set(marks_in(one) + marks_in(other))))
    if len(scope) > MOST_NAMES:
        raise BadScope("more than 3 names together")
    return told_apart(widened_draft(draft_of_points(one), scope), widened_draft(draft_of_points(other), scope))
