"""Models of conditions, and the condition written from models.

Lots are told by masks here: numbers in which a bit is set for each pair of the lot. A lot that lies within another
one is the lesser number then. Of models the one that comes first, as tuples of pairs, is the greater number, as the
first pair has the highest bit, and none lies within another one.
"""

from allboughs.checks import ascends
from allboughs.conditions import MOST_NODES, NO, YES, check_condition, goals, halved, is_lot
from allboughs.errors import BadLots, TooMany

MOST_MODELS = 2000


def least_of(masks):
    """The masks within which no other one of them lies, ascending if they are several."""
    if len(masks) < 2:
        return masks
    kept = []
    for mask in sorted(set(masks)):
        if all(mask & fewer != fewer for fewer in kept):
            kept.append(mask)
    return kept


def plain_lots(condition, bits, lots):
    """Whether a condition tells by either alone some lots of two pairs, as those of choices do; they are added."""
    word = condition[0]
    if word == "either":
        return plain_lots(condition[1], bits, lots) and plain_lots(condition[2], bits, lots)
    if word != "both" or condition[1][0] != "go" or condition[2][0] != "go":
        return False
    _, way, state = condition[1]
    one = bits[way][state]
    _, way, state = condition[2]
    lots[one | bits[way][state]] = True
    return one != bits[way][state]


def masks_joined(word, mine, theirs):
    """The masks of the models of both or either of two conditions, told theirs."""
    if (len(mine) * len(theirs) if word == "both" else len(mine) + len(theirs)) > MOST_MODELS:
        raise TooMany(MOST_MODELS)
    told = [one | other for one in mine for other in theirs] if word == "both" else mine + theirs
    if len(told) < 2:
        return told
    here = 0
    for mask in mine:
        here |= mask
    beside = 0
    for mask in theirs:
        beside |= mask
    # Of lots that share nothing, none of them empty, none lies within what others make.
    return told if not here & beside and all(told) else least_of(told)


def masks_of_each(pairs, bits):
    """The masks of the models of the condition to go, for each of some pairs, left or right."""
    if len(pairs) == 1:
        return [bits[0][pairs[0][0]], bits[1][pairs[0][1]]]
    half = (len(pairs) + 1) // 2
    return masks_joined("both", masks_of_each(pairs[:half], bits), masks_of_each(pairs[half:], bits))


def least_masks(condition, bits):
    """The masks of the models of a condition, which may be a brief one, where bits tells the bit of each pair."""
    word = condition[0]
    if word == "any":
        return [bits[0][left] | bits[1][right] for left, right in condition[1]]
    if word == "both" or word == "either":
        _, one, other = condition
        if word == "both" and one[0] == "go" and other[0] == "go":
            return [bits[one[1]][one[2]] | bits[other[1]][other[2]]]
        return masks_joined(word, least_masks(one, bits), least_masks(other, bits))
    if word == "each":
        return masks_of_each(condition[1], bits)
    if word == "go":
        return [bits[condition[1]][condition[2]]]
    return [0] if word == "yes" else []


def masks_of_models(condition, bits):
    """The masks of the models of what is known to be a condition, or a brief one, the models ascending."""
    lots = {}
    if condition[0] == "either" and plain_lots(condition, bits, lots):
        return sorted(lots, reverse=True)
    told = least_masks(condition, bits)
    return sorted(told, reverse=True) if len(told) > 1 else told


def models_of(condition):
    """The models of what is known to be a condition."""
    if condition[0] == "go":
        return ((condition[1:],),)
    pairs = sorted(set(goals(condition)))
    bits = [{}, {}]
    for at, (way, state) in enumerate(pairs):
        bits[way][state] = 1 << (len(pairs) - 1 - at)
    masks = masks_of_models(condition, bits)
    return tuple([tuple([pair for pair in pairs if mask & bits[pair[0]][pair[1]]]) for mask in masks])


def models(condition):
    """The ascending tuple of the models of a condition."""
    check_condition(condition)
    return models_of(condition)


def are_lots(thing):
    """Whether it is an ascending tuple of lots none of which has all pairs of another one."""
    if not isinstance(thing, tuple) or not all(is_lot(lot) for lot in thing) or not ascends(thing):
        return False
    bits = {}
    for lot in thing:
        for pair in lot:
            bits.setdefault(pair, 1 << len(bits))
    return len(least_of([sum([bits[pair] for pair in lot]) for lot in thing])) == len(thing)


def condition_of_lot(lot):
    """The condition that says to go by all pairs of a lot."""
    if not lot:
        return YES
    return halved("both", [("go", way, state) for way, state in lot])


def written(lots):
    """The condition, by halves, whose models are these lots."""
    if not are_lots(lots):
        raise BadLots("not an ascending tuple of lots, none within another one")
    if not lots:
        return NO
    nodes = len(lots) - 1 + sum([max(1, 2 * len(lot) - 1) for lot in lots])
    if nodes > MOST_NODES:
        raise TooMany(MOST_NODES)
    return halved("either", [condition_of_lot(lot) for lot in lots])
