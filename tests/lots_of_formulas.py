"""Formulas of the kinds that take long, drawn by lots, and shorts of all kinds."""

from allboughs.formulas import is_formula
from tests.drawing_lots import Lots
from tests.meanings import some_formula, some_plain

NAMES = ("x", "y", "z")


def rows_of_binders(lots):
    """A formula with rows of some and all in front of one without them."""
    formula = some_plain(lots, lots.randint(1, 3), NAMES)
    for name in lots.sample(NAMES, lots.randint(1, 3)):
        formula = (lots.choice(("some", "all")), name, formula)
    return formula


def drawn_formulas(seed, many):
    """Formulas of about 3 to 12 nodes."""
    lots = Lots(seed)
    found = []
    while len(found) < many:
        formula = rows_of_binders(lots) if lots.randrange(2) else some_formula(lots, lots.randint(2, 10), NAMES)
        if is_formula(formula):
            found.append(formula)
    return found


def some_chain(lots, deep):
    """A sentence about single places: the root, then so often left or right children, each bound by some or all."""
    names = ("aq", "bq")
    steps = [("aq", ("root", "aq"))]
    for _ in range(deep):
        last = steps[-1][0]
        name = names[1 - names.index(last)]
        steps.append((name, (lots.choice(("left", "right")), last, name)))
    formula = some_plain(lots, lots.randint(1, 2), names[:1 + (deep > 0)])
    for name, saying in steps[::-1]:
        some = ("some", name, ("both", saying, formula))
        formula = some if lots.randrange(2) else ("all", name, ("either", ("not", saying), formula))
    return formula


def some_chains(lots, many):
    """Chains, two of them joined, and their contraries."""
    told = []
    for _ in range(many):
        formula = some_chain(lots, lots.randint(0, 6))
        if lots.randrange(2):
            formula = (lots.choice(("both", "either")), formula, some_chain(lots, lots.randint(0, 3)))
        told.append(("not", formula) if lots.randrange(4) == 0 else formula)
    return told


def joined_rows(lots, names):
    """One or two formulas with rows of some, or of all, in front of plain parts."""
    told = []
    for _ in range(lots.randint(1, 2)):
        formula = some_plain(lots, lots.randint(1, 3), names)
        word = lots.choice(("some", "all"))
        for name in lots.sample(names, lots.randint(1, 3)):
            formula = (word, name, formula)
        told.append(("not", formula) if lots.randrange(3) == 0 else formula)
    return told[0] if len(told) == 1 else (lots.choice(("both", "either")), *told)


def some_then_all(lots, names):
    """Some x all y, or all x some y, in front of a plain part."""
    first, second = lots.choice((("some", "all"), ("all", "some")))
    x, y = lots.sample(names, 2)
    return (first, x, (second, y, some_plain(lots, lots.randint(1, 3), names)))


def all_shorts(x, y):
    """Shorts of each kind, of one name and of two."""
    told = [(word, x) for word in ("again", "bare", "closed", "every", "finite", "often", "one", "road", "thread")]
    for word in ("apart", "below", "first", "same"):
        told.extend([(word, x, y), (word, y, x), (word, x, x)])
    return told
