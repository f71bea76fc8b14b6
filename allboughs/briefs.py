"""Brief conditions: what lists of pairs become, told by the pairs alone; drafts of machines have them.

("any", pairs) stands for the condition to go, by halves, by one of the pairs, both left and right; ("each", pairs)
for that one flipped: to go, for each of the pairs, left or right. They may be parts of other conditions as well.
"""

from allboughs.conditions import CONTRARIES, NO, halved, to_both


def brief_list(pairs):
    """The condition to go by one of the pairs of a list."""
    return ("any", pairs) if pairs else NO


def add_goes(condition, shift, found):
    """Add the states of the goes of a condition, from left to right, moved along by so much, to a list."""
    word = condition[0]
    if word == "any" or word == "each":
        for left, right in condition[1]:
            found.append(left + shift)
            found.append(right + shift)
    elif word == "go":
        found.append(condition[2] + shift)
    elif word == "both" or word == "either":
        add_goes(condition[1], shift, found)
        add_goes(condition[2], shift, found)


def goes_in(conditions, shift):
    """For each condition the states of its goes, moved along by so much."""
    told = []
    for condition in conditions:
        found = []
        add_goes(condition, shift, found)
        told.append(found)
    return told


def mask_in(condition):
    """The mask of the states of the goes of a condition."""
    word = condition[0]
    if word == "any" or word == "each":
        mask = 0
        for left, right in condition[1]:
            mask |= 1 << left | 1 << right
        return mask
    if word == "go":
        return 1 << condition[2]
    return mask_in(condition[1]) | mask_in(condition[2]) if word == "both" or word == "either" else 0


def moved_brief(condition, numbers):
    """The condition with each go to q told as a go to numbers[q]."""
    word = condition[0]
    if word == "any" or word == "each":
        return (word, tuple([(numbers[left], numbers[right]) for left, right in condition[1]]))
    if word == "go":
        return (word, condition[1], numbers[condition[2]])
    if word == "both" or word == "either":
        return (word, moved_brief(condition[1], numbers), moved_brief(condition[2], numbers))
    return condition


def flipped_brief(condition):
    """The condition with yes and no, both and either exchanged."""
    word = condition[0]
    if word == "any":
        return ("each", condition[1])
    if word == "each":
        return ("any", condition[1])
    if word == "both" or word == "either":
        return (CONTRARIES[word], flipped_brief(condition[1]), flipped_brief(condition[2]))
    return condition if word == "go" else (CONTRARIES[word],)


def whole(condition):
    """The condition that is told briefly."""
    word = condition[0]
    if word == "any":
        return halved("either", [to_both(left, right) for left, right in condition[1]])
    if word == "each":
        return halved("both", [("either", ("go", 0, left), ("go", 1, right)) for left, right in condition[1]])
    if word == "both" or word == "either":
        return (word, whole(condition[1]), whole(condition[2]))
    return condition
