"""Choices of what both let by, of what is not let by, and whether one lets by nothing that the other one does not."""

from allboughs.building import combined_plain, contrary_of
from allboughs.choices import as_machine_of, check_choices, unpressed_of
from allboughs.chosen import chosen_of
from allboughs.emptying import wood_in
from allboughs.errors import OtherScope


def check_both(one, other):
    """Raise the errors of functions of two choices of one scope."""
    check_choices(one)
    check_choices(other)
    if one[1] != other[1]:
        raise OtherScope("choices of unlike scopes")


# Both machines are pressed together, which tells the same as if each had been pressed ahead of that.


def met(one, other):
    """The choices that let by just the woods that both let by."""
    check_both(one, other)
    return chosen_of(combined_plain("both", unpressed_of(one), unpressed_of(other)))


def outside(choices):
    """The choices that let by just the woods that these do not let by."""
    check_choices(choices)
    return chosen_of(contrary_of(as_machine_of(choices)))


def inside(one, other):
    """None if the other one lets by each wood that the one lets by, otherwise a wood that the one alone lets by."""
    check_both(one, other)
    return wood_in(chosen_of(combined_plain("both", unpressed_of(one), contrary_of(as_machine_of(other)))))
