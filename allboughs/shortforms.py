"""What shorts look like. Long formulas have them as atoms, so formulas ask for them ahead of the module shorts."""

from allboughs.words import is_name

OF_ONE = ("again", "bare", "closed", "every", "finite", "often", "one", "road", "thread")
OF_TWO = ("apart", "below", "first", "same")


def looks_short(thing):
    """Whether a value of any kind is a short."""
    if not isinstance(thing, tuple) or not thing or not isinstance(thing[0], str):
        return False
    if thing[0] in OF_ONE:
        return len(thing) == 2 and is_name(thing[1])
    return thing[0] in OF_TWO and len(thing) == 3 and is_name(thing[1]) and is_name(thing[2])
