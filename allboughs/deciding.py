"""What formulas mean: on a wood, for all woods, compared with one another."""

from allboughs.building import contrary_draft, joint_draft, widened_draft
from allboughs.choices import told_choices
from allboughs.chosen import chosen_draft
from allboughs.compiling import build_choices, build_machine, machine_in
from allboughs.emptying import wood_in
from allboughs.errors import BadFormula, BadScope, BadSentence, NoName, OtherScope
from allboughs.formulas import BINDERS, MOST_FREE, check_formula, tree_of
from allboughs.grafting import left_out
from allboughs.hiding import marked
from allboughs.machines import check_machine, press
from allboughs.playing import MOST_STANDINGS, Board, lets_marks_by, verdict_on
from allboughs.woods import MOST_NODES, check_wood, least_rows

TRUTHS = {"yes": "true", "no": "false"}
ONE_PLACE = ("wood", (), (((), 0, 0),))
# Of so few nodes a game is soon made, whether some of them are alike or not.
FEW_NODES = 8


def check_marks(scope, wood):
    """Raise the errors for what is no wood, or has not all names of the scope."""
    check_wood(wood)
    for name in scope:
        if name not in wood[1]:
            raise NoName(name)


def marks_alone(wood, scope):
    """The wood without the names that are not in the scope, a least one if it was large."""
    if len(wood[2]) > FEW_NODES:
        return cut_down(wood, scope)
    return wood if wood[1] == scope else left_out(wood, tuple([name for name in wood[1] if name not in scope]))


def cut_down(wood, scope):
    """The least wood alike to a wood but for the names that are not in the scope, all of which are left out."""
    fewer = wood if wood[1] == scope else left_out(wood, tuple([name for name in wood[1] if name not in scope]))
    return ("wood", scope, least_rows(fewer[2], MOST_NODES))


def means(formula, wood):
    """Whether a formula holds for the sets of a wood."""
    tree = check_formula(formula)
    check_marks(tree[1], wood)
    return lets_marks_by(machine_in(tree), marks_alone(wood, tree[1]))


def check_binder(formula, words):
    """Raise BadFormula unless it is a formula that begins with one of the words, the name free in what is below.

    Told is the formula as scoped tells it.
    """
    tree = check_formula(formula)
    if tree[0] not in words or tree[3] not in tree[2][1]:
        raise BadFormula("binds no name in front that is free below")
    return tree


def shown(formula, wood):
    """A wood that shows which set makes some hold, or all not hold; None if there is no such set."""
    word, scope, part, name = check_binder(formula, BINDERS)
    check_marks(scope, wood)
    if word == "all":
        part = ("not", part[1], part)
    return marked(told_choices(build_choices(part)), cut_down(wood, scope), name)


def truth(sentence):
    """("true", a plan of the keeper) or ("false", a plan of the breaker)."""
    tree = tree_of(sentence)
    if tree is None or tree[1]:
        raise BadSentence("not a sentence")
    word, plan = verdict_on(Board(machine_in(tree), ONE_PLACE, MOST_STANDINGS))
    return (TRUTHS[word], plan)


def scope_of_both(one, other):
    """The scope of the free names of two formulas, told as scoped tells them."""
    scope = tuple(sorted(set(one[1] + other[1])))
    if len(scope) > MOST_FREE:
        raise BadScope("more than 3 free names together")
    return scope


def drafts_of(one, other):
    """The drafts of the machines of two formulas, told as scoped tells them, of the scope of both."""
    scope = scope_of_both(one, other)
    mine = widened_draft(build_machine(one), scope)
    return mine, widened_draft(build_machine(other), scope)


def odds_draft(one, other):
    """The draft of choices that let by just the woods that the one machine lets by and the other one does not."""
    return chosen_draft(joint_draft("both", one, contrary_draft(other)))


def between(one, other):
    """A wood that the one machine lets by and the other one does not; None if there is none."""
    return wood_in(told_choices(odds_draft(one, other)))


def told_apart(one, other):
    """A wood that just one of two machines lets by; None if there is none."""
    wood = between(one, other)
    return between(other, one) if wood is None else wood


def follows(one, other):
    """None if the other formula holds wherever the one does, otherwise a wood on which the one holds alone."""
    mine, theirs = drafts_of(check_formula(one), check_formula(other))
    return between(mine, theirs)


def parted(one, other):
    """None if both formulas hold for the same sets, otherwise a wood on which just one of them holds."""
    mine, theirs = drafts_of(check_formula(one), check_formula(other))
    return told_apart(mine, theirs)


def machines_parted(one, other):
    """None if two machines let the same woods by, otherwise a wood that just one of them lets by."""
    check_machine(one)
    check_machine(other)
    if one[1] != other[1]:
        raise OtherScope("machines of unlike scopes")
    return told_apart(press(one[1], one[2], 0), press(other[1], other[2], 0))
