"""Names, and the words that are kept from being names."""

KEPT = (
    "again", "all", "apart", "bare", "below", "both", "closed", "either", "every", "finite", "first", "left",
    "not", "often", "one", "right", "road", "root", "same", "some", "sub", "thread",
)


def is_name(thing):
    """Whether a value of any kind is a name."""
    if not isinstance(thing, str) or not 1 <= len(thing) <= 8 or thing in KEPT:
        return False
    return thing.isascii() and thing.isalpha() and thing.islower()
