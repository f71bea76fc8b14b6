"""Models of conditions, and the condition written from models.

Lots are told by masks here: numbers in which a bit is set for each pair of the lot. A lot that lies within another
one is the lesser number then.
"""

from allboughs.checks import ascends
from allboughs.conditions import MOST_NODES, NO, YES, add_goals, check_condition, halved, is_lot
from allboughs.errors import BadLots, TooMany

MOST_MODELS = 2000


def least_of(masks):
    """The masks, ascending, within which no other one of them lies."""
    if len(masks) < 2:
        return masks
    kept = []
    for mask in sorted(set(masks)):
        if all(mask & fewer != fewer for fewer in kept):
            kept.append(mask)
    return kept


def least_masks(condition, bits):
    """The masks of the models of a condition, where bits tells the bit of each pair."""
    word = condition[0]
    if word == "go":
        return [bits[(condition[1], condition[2])]]
    if word == "yes":
        return [0]
    if word == "no":
        return []
    mine = least_masks(condition[1], bits)
    theirs = least_masks(condition[2], bits)
    if (len(mine) * len(theirs) if word == "both" else len(mine) + len(theirs)) > MOST_MODELS:
        raise TooMany(MOST_MODELS)
    if word == "both":
        return least_of([one | other for one in mine for other in theirs])
    return least_of(mine + theirs)


def plain_lots(condition, lots):
    """Whether a condition tells by either alone some lots of two pairs, as those of choices do; they are added."""
    word = condition[0]
    if word == "either":
        return plain_lots(condition[1], lots) and plain_lots(condition[2], lots)
    if word != "both" or condition[1][0] != "go" or condition[2][0] != "go":
        return False
    one = condition[1][1:]
    other = condition[2][1:]
    lots[(one, other) if one < other else (other, one)] = True
    return one != other


def models_of(condition):
    """The models of what is known to be a condition."""
    if condition[0] == "go":
        return ((condition[1:],),)
    lots = {}
    if plain_lots(condition, lots):
        return tuple(sorted(lots))
    found = {}
    add_goals(condition, found)
    pairs = sorted(found)
    bits = {pair: 1 << at for at, pair in enumerate(pairs)}
    masks = least_masks(condition, bits)
    return tuple(sorted([tuple([pair for pair in pairs if mask & bits[pair]]) for mask in masks]))


def models(condition):
    """The ascending tuple of the models of a condition."""
    check_condition(condition)
    return models_of(condition)


def are_lots(thing):
    """Whether it is an ascending tuple of lots none of which has all pairs of another one."""
    if not isinstance(thing, tuple) or not all(is_lot(lot) for lot in thing) or not ascends(thing):
        return False
    bits = {}
    for lot in thing:
        for pair in lot:
            bits.setdefault(pair, 1 << len(bits))
    return len(least_of([sum([bits[pair] for pair in lot]) for lot in thing])) == len(thing)


def condition_of_lot(lot):
    """The condition that says to go by all pairs of a lot."""
    if not lot:
        return YES
    return halved("both", [("go", way, state) for way, state in lot])


def written(lots):
    """The condition, by halves, whose models are these lots."""
    if not are_lots(lots):
        raise BadLots("not an ascending tuple of lots, none within another one")
    if not lots:
        return NO
    nodes = len(lots) - 1 + sum([max(1, 2 * len(lot) - 1) for lot in lots])
    if nodes > MOST_NODES:
        raise TooMany(MOST_NODES)
    return halved("either", [condition_of_lot(lot) for lot in lots])
