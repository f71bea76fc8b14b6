"""Conditions: trees of yes, no, goes, both and either."""

from allboughs.checks import is_number, is_pairs
from allboughs.errors import BadCondition, BadLot

MOST_STATES = 400
MOST_NODES = 1600
MOST_DEEP = 30

YES = ("yes",)
NO = ("no",)
CONTRARIES = {"yes": "no", "no": "yes", "both": "either", "either": "both"}


def is_joint(part):
    """Whether a node of a condition has parts."""
    return part[0] == "both" or part[0] == "either"


def is_form(part, many):
    """Whether it looks like a node of a condition, whatever its parts are, with goes to numbers below many."""
    if not isinstance(part, tuple) or not part or not isinstance(part[0], str):
        return False
    if part[0] == "go":
        return len(part) == 3 and is_number(part[1], 2) and is_number(part[2], many)
    if is_joint(part):
        return len(part) == 3
    return len(part) == 1 and part[0] in ("yes", "no")


def is_condition_for(thing, many):
    """Whether it is a condition with goes to numbers below many alone.

    It is looked at without calls of itself, and no further than a condition can go: the value may be as deep as
    it likes, and may be a small thing with endless many nodes as they are counted.
    """
    todo = [(thing, 1)]
    nodes = 0
    while todo:
        part, deep = todo.pop()
        nodes += 1
        if nodes > MOST_NODES or deep > MOST_DEEP or not is_form(part, many):
            return False
        if is_joint(part):
            todo.append((part[2], deep + 1))
            todo.append((part[1], deep + 1))
    return True


def is_condition(thing):
    """Whether a value of any kind is a condition."""
    return is_condition_for(thing, MOST_STATES)


def is_lot(thing):
    """Whether a value of any kind is a lot."""
    return is_pairs(thing, 2, MOST_STATES)


def check_condition(condition):
    """Raise BadCondition for what is no condition."""
    if not is_condition(condition):
        raise BadCondition("not a condition")


def goals(condition):
    """The pairs (way, state) of the goes of a condition, from left to right, as often as they stand in it."""
    found = []
    todo = [condition]
    while todo:
        part = todo.pop()
        if part[0] == "go":
            found.append((part[1], part[2]))
        elif is_joint(part):
            todo.append(part[2])
            todo.append(part[1])
    return found


def add_states(condition, found):
    """Add the states of the goes of a condition, from left to right, to the keys of a dict."""
    word = condition[0]
    if word == "go":
        found[condition[2]] = True
    elif word == "both" or word == "either":
        add_states(condition[1], found)
        add_states(condition[2], found)


def add_goals(condition, found):
    """Add the pairs (way, state) of the goes of a condition to the keys of a dict."""
    word = condition[0]
    if word == "go":
        found[condition[1:]] = True
    elif word == "both" or word == "either":
        add_goals(condition[1], found)
        add_goals(condition[2], found)


def goes(condition):
    """The lot of the pairs of all goes of a condition."""
    check_condition(condition)
    return tuple(sorted(set(goals(condition))))


def holds_by(condition, pairs):
    """Whether a condition holds by the pairs, given as a dict."""
    word = condition[0]
    if word == "go":
        return (condition[1], condition[2]) in pairs
    if word == "both":
        return holds_by(condition[1], pairs) and holds_by(condition[2], pairs)
    if word == "either":
        return holds_by(condition[1], pairs) or holds_by(condition[2], pairs)
    return word == "yes"


def holds(condition, lot):
    """Whether a condition holds by a lot."""
    check_condition(condition)
    if not is_lot(lot):
        raise BadLot("not a lot")
    return holds_by(condition, {pair: True for pair in lot})


def plainly_joined(word, first, second):
    """Two plain conditions joined by a word, made plain."""
    if len(first) > 1 and len(second) > 1:
        return (word, first, second)
    ending, idle = (NO, YES) if word == "both" else (YES, NO)
    if ending in (first, second):
        return ending
    return second if first == idle else first


def made_plain(condition):
    """The condition, made plain."""
    if not is_joint(condition):
        return condition
    return plainly_joined(condition[0], made_plain(condition[1]), made_plain(condition[2]))


def plain(condition):
    """The condition without yes and no in its parts."""
    check_condition(condition)
    return made_plain(condition)


def turned_over(condition):
    """The condition with yes and no, both and either exchanged."""
    word = condition[0]
    if word == "go":
        return condition
    if is_joint(condition):
        return (CONTRARIES[word], turned_over(condition[1]), turned_over(condition[2]))
    return (CONTRARIES[word],)


def flipped(condition):
    """The condition with yes and no, both and either exchanged."""
    check_condition(condition)
    return turned_over(condition)


def moved(condition, numbers):
    """The condition with each go to q told as a go to numbers[q]."""
    word = condition[0]
    if word == "go":
        return (word, condition[1], numbers[condition[2]])
    if word == "both" or word == "either":
        return (word, moved(condition[1], numbers), moved(condition[2], numbers))
    return condition


def size_and_depth(condition):
    """How many nodes a condition has, and how deep it is."""
    if not is_joint(condition):
        return 1, 1
    nodes, deep = size_and_depth(condition[1])
    more, deeper = size_and_depth(condition[2])
    return 1 + nodes + more, 1 + max(deep, deeper)


def halved(word, parts):
    """The conditions of a list, one at least, joined by a word: the first half of them, then the others."""
    if len(parts) == 1:
        return parts[0]
    half = (len(parts) + 1) // 2
    return (word, halved(word, parts[:half]), halved(word, parts[half:]))


def to_both(left, right):
    """The condition to go left to the one state and right to the other one."""
    return ("both", ("go", 0, left), ("go", 1, right))
