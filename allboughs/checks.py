"""Questions about values of any kind, which the other modules ask ahead of everything else.

True and False are no numbers, and where a tuple is meant a list is none: so each value is asked
for its kind before it is compared.
"""


def is_number(thing, limit):
    """Whether it is a whole number from 0 on, below the limit."""
    return isinstance(thing, int) and not isinstance(thing, bool) and 0 <= thing < limit


def is_headed(thing, word, size):
    """Whether it is a tuple with so many items, the first of which is the word."""
    return isinstance(thing, tuple) and len(thing) == size and isinstance(thing[0], str) and thing[0] == word


def is_row(thing, least, most):
    """Whether it is a tuple with so many items."""
    return isinstance(thing, tuple) and least <= len(thing) <= most


def ascends(items):
    """Whether each of the items, all of which can be compared, is less than the next one."""
    return all(items[at] < items[at + 1] for at in range(len(items) - 1))


def is_numbers(thing, limit):
    """Whether it is an ascending tuple of numbers below the limit."""
    return isinstance(thing, tuple) and all(is_number(number, limit) for number in thing) and ascends(thing)


def is_pair(thing, left, right):
    """Whether it is a pair of numbers, the first one below left, the second one below right."""
    if not isinstance(thing, tuple) or len(thing) != 2:
        return False
    return is_number(thing[0], left) and is_number(thing[1], right)


def is_pairs(thing, left, right):
    """Whether it is an ascending tuple of such pairs."""
    if not isinstance(thing, tuple):
        return False
    ahead = (-1, -1)
    for pair in thing:
        if not is_pair(pair, left, right) or pair <= ahead:
            return False
        ahead = pair
    return True
