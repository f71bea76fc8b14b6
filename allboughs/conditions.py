"""Conditions: trees of yes, no, goes, both and either."""

from allboughs.checks import is_pairs
from allboughs.errors import BadCondition, BadLot

MOST_STATES = 400
MOST_NODES = 1600
MOST_DEEP = 30
TOO_MANY_NODES = 1601

YES = ("yes",)
NO = ("no",)
CONTRARIES = {"yes": "no", "no": "yes", "both": "either", "either": "both"}


def is_joint(part):
    """Whether a node of a condition has parts."""
    return part[0] == "both" or part[0] == "either"


def is_go(part, many):
    """Whether a tuple that begins with "go" is a go to a number below many."""
    if len(part) != 3:
        return False
    _, way, goal = part
    if not isinstance(way, int) or isinstance(way, bool) or not isinstance(goal, int) or isinstance(goal, bool):
        return False
    return 0 <= way < 2 and 0 <= goal < many


def nodes_in(part, many, deep):
    """How many nodes a value has as a condition with goes to numbers below many that is no deeper than told.

    It is TOO_MANY_NODES if it is no such condition. The value may be as deep as it likes, and may be a small thing
    with endless many nodes as they are counted, so no more of it is looked at than a condition has.
    """
    if not isinstance(part, tuple) or not part or not isinstance(part[0], str):
        return TOO_MANY_NODES
    word = part[0]
    if word == "go":
        return 1 if is_go(part, many) else TOO_MANY_NODES
    if word == "both" or word == "either":
        if len(part) != 3 or deep == 1:
            return TOO_MANY_NODES
        nodes = 1 + nodes_in(part[1], many, deep - 1)
        return nodes if nodes > MOST_NODES else nodes + nodes_in(part[2], many, deep - 1)
    return 1 if len(part) == 1 and (word == "yes" or word == "no") else TOO_MANY_NODES


def is_condition_for(thing, many):
    """Whether it is a condition with goes to numbers below many alone."""
    return nodes_in(thing, many, MOST_DEEP) <= MOST_NODES


def is_condition(thing):
    """Whether a value of any kind is a condition."""
    return is_condition_for(thing, MOST_STATES)


def is_lot(thing):
    """Whether a value of any kind is a lot."""
    return is_pairs(thing, 2, MOST_STATES)


def check_condition(condition):
    """Raise BadCondition for what is no condition."""
    if not is_condition(condition):
        raise BadCondition("not a condition")


def goals(condition):
    """The pairs (way, state) of the goes of a condition, from left to right, as often as they stand in it."""
    found = []
    todo = [condition]
    while todo:
        part = todo.pop()
        if part[0] == "go":
            found.append((part[1], part[2]))
        elif is_joint(part):
            todo.append(part[2])
            todo.append(part[1])
    return found


def add_states(condition, found):
    """Add the states of the goes of a condition, from left to right, to a list."""
    word = condition[0]
    if word == "go":
        found.append(condition[2])
    elif word == "both" or word == "either":
        add_states(condition[1], found)
        add_states(condition[2], found)


def states_in(condition):
    """The states of the goes of a condition, from left to right."""
    found = []
    add_states(condition, found)
    return found


def goes(condition):
    """The lot of the pairs of all goes of a condition."""
    check_condition(condition)
    return tuple(sorted(set(goals(condition))))


def holds_by(condition, pairs):
    """Whether a condition holds by the pairs, given as a dict."""
    word = condition[0]
    if word == "go":
        return (condition[1], condition[2]) in pairs
    if word == "both":
        return holds_by(condition[1], pairs) and holds_by(condition[2], pairs)
    if word == "either":
        return holds_by(condition[1], pairs) or holds_by(condition[2], pairs)
    return word == "yes"


def holds(condition, lot):
    """Whether a condition holds by a lot."""
    check_condition(condition)
    if not is_lot(lot):
        raise BadLot("not a lot")
    return holds_by(condition, {pair: True for pair in lot})


def plainly_joined(word, first, second):
    """Two plain conditions joined by a word, made plain."""
    if len(first) > 1 and len(second) > 1:
        return (word, first, second)
    ending, idle = (NO, YES) if word == "both" else (YES, NO)
    if ending in (first, second):
        return ending
    return second if first == idle else first


def made_plain(condition):
    """The condition, made plain."""
    if not is_joint(condition):
        return condition
    return plainly_joined(condition[0], made_plain(condition[1]), made_plain(condition[2]))


def plain(condition):
    """The condition without yes and no in its parts."""
    check_condition(condition)
    return made_plain(condition)


def turned_over(condition):
    """The condition with yes and no, both and either exchanged."""
    word = condition[0]
    if word == "go":
        return condition
    if is_joint(condition):
        return (CONTRARIES[word], turned_over(condition[1]), turned_over(condition[2]))
    return (CONTRARIES[word],)


def flipped(condition):
    """The condition with yes and no, both and either exchanged."""
    check_condition(condition)
    return turned_over(condition)


def moved(condition, numbers):
    """The condition with each go to q told as a go to numbers[q]."""
    word = condition[0]
    if word == "go":
        return (word, condition[1], numbers[condition[2]])
    if word == "both" or word == "either":
        return (word, moved(condition[1], numbers), moved(condition[2], numbers))
    return condition


def depth_of(condition):
    """How deep a condition is."""
    if not is_joint(condition):
        return 1
    return 1 + max(depth_of(condition[1]), depth_of(condition[2]))


def halved(word, parts):
    """The conditions of a list, one at least, joined by a word: the first half of them, then the others."""
    if len(parts) == 1:
        return parts[0]
    half = (len(parts) + 1) // 2
    return (word, halved(word, parts[:half]), halved(word, parts[half:]))


def to_both(left, right):
    """The condition to go left to the one state and right to the other one."""
    return ("both", ("go", 0, left), ("go", 1, right))
