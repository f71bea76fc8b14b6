"""Points [41], [44] and [53]: the very values that machine_of, choices_of, chosen, met, outside told from the first."""

from allboughs.building import contrary
from allboughs.choices import as_machine
from allboughs.chosen import chosen
from allboughs.compiling import choices_of, machine_of
from allboughs.errors import TooMany
from allboughs.formulas import is_formula
from allboughs.inclusion import inside, met, outside
from allboughs.pruning import pruned
from tests.drawing_lots import Lots, digest
from tests.meanings import some_formula, some_plain
from tests.support import Case, some_choices, some_machine

NAMES = ("x", "y", "z")
# Told by the program ahead of all that made it faster: a seed, how many formulas, the digest of what was told.
MACHINES = (
    (1, 150, "243588c482dffdabedc87654"), (2, 150, "531871c2d56ea64376b032a1"), (3, 150, "647ac201e8520201303b5d5f"),
    (4, 150, "991710a790396d9917a8cdfe"),
)
INSIDE = "44da159a21596e8186de7410"
CHOSEN = "e29f11afba1c6092dda47a4b"


def told(function, *row):
    """What a function tells, or the number of its TooMany."""
    try:
        return function(*row)
    except TooMany as error:
        return ("TooMany", error.most)


def rows_of_binders(lots):
    """A formula with rows of some and all in front of one without them."""
    formula = some_plain(lots, lots.randint(1, 3), NAMES)
    for name in lots.sample(NAMES, lots.randint(1, 3)):
        formula = (lots.choice(("some", "all")), name, formula)
    return formula


def drawn_formulas(seed, many):
    """Formulas of about 3 to 12 nodes."""
    lots = Lots(seed)
    found = []
    while len(found) < many:
        formula = rows_of_binders(lots) if lots.randrange(2) else some_formula(lots, lots.randint(2, 10), NAMES)
        if is_formula(formula):
            found.append(formula)
    return found


class SameValues(Case):
    def test_machines_and_choices_of_formulas(self):
        for seed, many, expected in MACHINES:
            values = [(told(machine_of, formula), told(choices_of, formula)) for formula in drawn_formulas(seed, many)]
            self.assertEqual(digest(values), expected)

    def test_both_not_let_by_and_inside(self):
        lots = Lots(5)
        values = []
        for _ in range(250):
            scope = lots.choice(((), ("x",)))
            one, other = [some_choices(lots, scope, lots.randint(1, 3), 3, 2) for _ in range(2)]
            values.append((told(met, one, other), told(outside, one), told(inside, one, other) is None, told(pruned, one)))
        self.assertEqual(digest(values), INSIDE)

    def test_chosen(self):
        lots = Lots(6)
        values = []
        for _ in range(250):
            machine = some_machine(lots, lots.choice(((), ("x",), ("x", "y"))), lots.randint(1, 4), 4, 3)
            values.append((told(chosen, machine), told(chosen, contrary(machine)), told(lambda: as_machine(chosen(machine)))))
        self.assertEqual(digest(values), CHOSEN)


