"""Points [22], [23], [41], [44], [53], [55] to [57], [62], [80], [81], [87]: the very values that were told from the first.

Some of them are open; what is told of them was faster made without a change, so they are held as well.
"""

from allboughs.building import contrary
from allboughs.choices import as_machine
from allboughs.chosen import chosen
from allboughs.compiling import choices_of, machine_of
from allboughs.deciding import means, shown, truth
from allboughs.errors import BadFormula, TooMany
from allboughs.formulas import free_names, is_formula
from allboughs.inclusion import inside, met, outside
from allboughs.leastwoods import least_parting, woods_of
from allboughs.papers import is_answer, is_paper, paper_of, standings_of
from allboughs.plainroads import pointed
from allboughs.playing import game_of, lets_by, standings, verdict, won
from allboughs.pointing import machine_of_points
from allboughs.pruning import pruned
from tests.drawing_lots import Lots, digest
from tests.lots_of_formulas import all_shorts, drawn_formulas, joined_rows, some_chains, some_then_all
from tests.meanings import some_plain
from tests.support import Case, some_choices, some_machine, some_wood_of

# Told by the program ahead of all that made it faster: a seed, how many formulas, the digest of what was told.
MACHINES = (
    (1, 150, "243588c482dffdabedc87654"), (2, 150, "531871c2d56ea64376b032a1"), (3, 150, "647ac201e8520201303b5d5f"),
    (4, 150, "991710a790396d9917a8cdfe"),
)
CHAINS = "244aeac009b0a9263fb44775"
ROWS = ("86153808057b40dc8ffcd6da", "7117ee304c133a4046cdfb5d")
SHORTS = "254dac7d442ae0b39678958b"
SMALL_WOODS = "2a01520bc8797f60af553f6e"
PARTINGS = "06361ac0036c645b74f1782e"
WIDE = "0dfa9882956eee8d0720505e"
INSIDE = "44da159a21596e8186de7410"
CHOSEN = "e29f11afba1c6092dda47a4b"


def told(function, *row):
    """What a function tells, or the number of its TooMany, or that it wants another formula."""
    try:
        return function(*row)
    except TooMany as error:
        return ("TooMany", error.most)
    except BadFormula:
        return "BadFormula"


class SameValues(Case):
    def test_chains(self):
        values = []
        for formula in some_chains(Lots(7), 60):
            answer = told(truth, formula)
            values.append((told(machine_of, formula), told(choices_of, formula), answer, told(is_answer, formula, answer)))
        self.assertEqual(digest(values), CHAINS)

    def test_rows_on_woods(self):
        for at, draw in enumerate((joined_rows, some_then_all)):
            lots = Lots(8 + at)
            values = []
            while len(values) < 120:
                formula = draw(lots, ("hux", "pik", "zuq"))
                if is_formula(formula):
                    wood = some_wood_of(lots, free_names(formula), lots.randint(1, 4))
                    paper = told(paper_of, formula, wood)
                    row = [told(function, formula, wood) for function in (means, shown, standings_of)]
                    values.append((told(machine_of, formula), told(choices_of, formula), row, paper, told(is_paper, formula, wood, paper)))
            self.assertEqual(digest(values), ROWS[at])

    def test_machines_of_pointed_shorts(self):
        lots = Lots(10)
        values = []
        for short in all_shorts("x", "y"):
            machine = machine_of_points(pointed(short))
            values.append(machine)
            for _ in range(8):
                wood = some_wood_of(lots, machine[1], lots.randint(1, 5))
                values.append([function(machine, wood) for function in (lets_by, verdict, won, standings, game_of)])
        self.assertEqual(digest(values), SHORTS)

    def test_small_woods(self):
        values = [told(woods_of, scope, many) for scope in ((), ("aq",), ("b", "ca"), ("a", "b", "c")) for many in (1, 2, 3)]
        self.assertEqual(digest(values), SMALL_WOODS)

    def test_least_partings(self):
        lots = Lots(11)
        values = []
        for _ in range(60):
            one, other = [some_plain(lots, lots.randint(1, 2), ("ab", "cd")) for _ in range(2)]
            if lots.randrange(2):
                one = (lots.choice(("some", "all")), "cd", one)
            values.append((told(least_parting, one, other, lots.randint(1, 3)), told(least_parting, one, ("not", ("not", one)), 2)))
        self.assertEqual(digest(values), PARTINGS)

    def test_choices_of_many_states(self):
        """Beyond the few states that formulas mostly have."""
        lots = Lots(12)
        values = []
        for _ in range(60):
            choices = some_choices(lots, lots.choice(((), ("x",), ("x", "y"))), lots.randint(9, 30), lots.choice((1, 2, 3, 6)), lots.choice((1, 3, 6)))
            values.append((told(pruned, choices), told(lambda: as_machine(choices))))
        self.assertEqual(digest(values), WIDE)

    def test_machines_and_choices_of_formulas(self):
        for seed, many, expected in MACHINES:
            values = [(told(machine_of, formula), told(choices_of, formula)) for formula in drawn_formulas(seed, many)]
            self.assertEqual(digest(values), expected)

    def test_both_not_let_by_and_inside(self):
        lots = Lots(5)
        values = []
        for _ in range(250):
            scope = lots.choice(((), ("x",)))
            one, other = [some_choices(lots, scope, lots.randint(1, 3), 3, 2) for _ in range(2)]
            values.append((told(met, one, other), told(outside, one), told(inside, one, other) is None, told(pruned, one)))
        self.assertEqual(digest(values), INSIDE)

    def test_chosen(self):
        lots = Lots(6)
        values = []
        for _ in range(250):
            machine = some_machine(lots, lots.choice(((), ("x",), ("x", "y"))), lots.randint(1, 4), 4, 3)
            values.append((told(chosen, machine), told(chosen, contrary(machine)), told(lambda: as_machine(chosen(machine)))))
        self.assertEqual(digest(values), CHOSEN)


