"""Whether two formulas mean one: bars that show it, or a wood on which one of them holds alone."""

from allboughs.checks import is_row
from allboughs.choices import told_choices
from allboughs.deciding import drafts_of, odds_draft
from allboughs.emptying import bar, is_bar, wood_in
from allboughs.formulas import check_no_long
from allboughs.machines import told_machine
from allboughs.playing import lets_marks_by
from allboughs.woods import is_wood


def odds_of(mine, theirs):
    """The choices that let by just the woods that the one machine lets by and the other one does not."""
    return told_choices(odds_draft(mine, theirs))


def machines_of(one, other):
    """The drafts of the machines of two formulas, widened to the free names of both."""
    return drafts_of(check_no_long(one), check_no_long(other))


def odds_both_ways(machines):
    """The odds of the one and the other of two machines, and those of the other and the one."""
    mine, theirs = machines
    return odds_of(mine, theirs), odds_of(theirs, mine)


def both_odds(one, other):
    """The odds of the one and the other formula, and those of the other and the one."""
    return odds_both_ways(machines_of(one, other))


def odds(one, other):
    """The choices that let by just the woods on which the one formula holds and the other one does not."""
    mine, theirs = machines_of(one, other)
    return odds_of(mine, theirs)


def sameness(one, other):
    """("same", bar, bar) if two formulas mean one, otherwise ("parted", a wood on which one of them holds alone)."""
    mine, theirs = both_odds(one, other)
    for choices in (mine, theirs):
        wood = wood_in(choices)
        if wood is not None:
            return ("parted", wood)
    return ("same", bar(mine), bar(theirs))


def is_sameness(one, other, thing):
    """Whether a value of any kind is what sameness may tell."""
    machines = machines_of(one, other)
    mine, theirs = odds_both_ways(machines)
    if is_row(thing, 3, 3) and isinstance(thing[0], str) and thing[0] == "same":
        return is_bar(mine, thing[1]) and is_bar(theirs, thing[2])
    if not is_row(thing, 2, 2) or not isinstance(thing[0], str) or thing[0] != "parted" or not is_wood(thing[1]):
        return False
    wood = thing[1]
    if wood[1] != mine[1]:
        return False
    return lets_marks_by(told_machine(machines[0]), wood) != lets_marks_by(told_machine(machines[1]), wood)


def nodes_told(one, other):
    """How many nodes are enough for a wood on which two formulas part, if they do."""
    mine, theirs = both_odds(one, other)
    return max(len(mine[2]), len(theirs[2]))
