"""Choices of what both let by, of what is not let by, and whether one lets by nothing that the other one does not."""

from allboughs.building import contrary_draft, joint_draft
from allboughs.choices import as_machine_draft, check_choices, choices_draft, machine_draft, told_choices
from allboughs.chosen import chosen_draft
from allboughs.drafts import machine_ranks
from allboughs.emptying import wood_in
from allboughs.errors import OtherScope


def check_both(one, other):
    """Raise the errors of functions of two choices of one scope."""
    check_choices(one)
    check_choices(other)
    if one[1] != other[1]:
        raise OtherScope("choices of unlike scopes")


def inner_draft(one, other):
    """The draft of choices of what two machines both let by; their ranks are told anew together."""
    draft = joint_draft("both", one, other)
    draft.ranks = machine_ranks(draft.ranks, draft.columns, draft.conditions)
    return chosen_draft(draft)


def met(one, other):
    """The choices that let by just the woods that both let by."""
    check_both(one, other)
    return told_choices(inner_draft(machine_draft(choices_draft(one)), machine_draft(choices_draft(other))))


def outside(choices):
    """The choices that let by just the woods that these do not let by."""
    check_choices(choices)
    return told_choices(chosen_draft(contrary_draft(as_machine_draft(choices_draft(choices)))))


def inside(one, other):
    """None if the other one lets by each wood that the one lets by, otherwise a wood that the one alone lets by."""
    check_both(one, other)
    rest = contrary_draft(as_machine_draft(choices_draft(other)))
    return wood_in(told_choices(inner_draft(machine_draft(choices_draft(one)), rest)))
