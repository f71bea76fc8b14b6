"""What formulas mean: on a wood, for all woods, compared with one another."""

from allboughs.building import combined, contrary_of, widened_to
from allboughs.chosen import chosen_of
from allboughs.compiling import build_choices, build_machine
from allboughs.emptying import wood_in
from allboughs.errors import BadFormula, BadScope, BadSentence, NoName, OtherScope
from allboughs.formulas import BINDERS, MOST_FREE, check_formula, free_in, is_sentence
from allboughs.grafting import left_out
from allboughs.hiding import marked
from allboughs.machines import check_machine, press
from allboughs.playing import board_of, lets_marks_by, verdict_in
from allboughs.woods import MOST_NODES, check_wood, least_rows

TRUTHS = {"yes": "true", "no": "false"}
ONE_PLACE = ("wood", (), (((), 0, 0),))


def check_marks(scope, wood):
    """Raise the errors for what is no wood, or has not all names of the scope."""
    check_wood(wood)
    for name in scope:
        if name not in wood[1]:
            raise NoName(name)


def cut_down(wood, scope):
    """The least wood alike to a wood but for the names that are not in the scope, all of which are left out."""
    fewer = left_out(wood, tuple([name for name in wood[1] if name not in scope]))
    return ("wood", scope, least_rows(fewer[2], MOST_NODES))


def means(formula, wood):
    """Whether a formula holds for the sets of a wood."""
    check_formula(formula)
    scope = free_in(formula)
    check_marks(scope, wood)
    return lets_marks_by(build_machine(formula), cut_down(wood, scope))


def check_binder(formula, words):
    """Raise BadFormula unless it is a formula that begins with one of the words, the name free in what is below."""
    check_formula(formula)
    if formula[0] not in words or formula[1] not in free_in(formula[2]):
        raise BadFormula("binds no name in front that is free below")


def shown(formula, wood):
    """A wood that shows which set makes some hold, or all not hold; None if there is no such set."""
    check_binder(formula, BINDERS)
    scope = free_in(formula)
    check_marks(scope, wood)
    part = formula[2] if formula[0] == "some" else ("not", formula[2])
    return marked(build_choices(part), cut_down(wood, scope), formula[1])


def truth(sentence):
    """("true", a plan of the keeper) or ("false", a plan of the breaker)."""
    if not is_sentence(sentence):
        raise BadSentence("not a sentence")
    word, plan = verdict_in(board_of(build_machine(sentence), ONE_PLACE).told_game())
    return (TRUTHS[word], plan)


def scope_of_both(one, other):
    """The scope of the free names of two formulas; all errors but TooMany are raised here."""
    check_formula(one)
    check_formula(other)
    scope = tuple(sorted(set(free_in(one) + free_in(other))))
    if len(scope) > MOST_FREE:
        raise BadScope("more than 3 free names together")
    return scope


def between(one, other):
    """A wood that the one machine lets by and the other one does not; None if there is none."""
    return wood_in(chosen_of(combined("both", one, contrary_of(other))))


def told_apart(one, other):
    """A wood that just one of two machines lets by; None if there is none."""
    wood = between(one, other)
    return between(other, one) if wood is None else wood


def follows(one, other):
    """None if the other formula holds wherever the one does, otherwise a wood on which the one holds alone."""
    scope = scope_of_both(one, other)
    return between(widened_to(build_machine(one), scope), widened_to(build_machine(other), scope))


def parted(one, other):
    """None if both formulas hold for the same sets, otherwise a wood on which just one of them holds."""
    scope = scope_of_both(one, other)
    return told_apart(widened_to(build_machine(one), scope), widened_to(build_machine(other), scope))


def machines_parted(one, other):
    """None if two machines let the same woods by, otherwise a wood that just one of them lets by."""
    check_machine(one)
    check_machine(other)
    if one[1] != other[1]:
        raise OtherScope("machines of unlike scopes")
    return told_apart(press(one[1], one[2], 0), press(other[1], other[2], 0))
