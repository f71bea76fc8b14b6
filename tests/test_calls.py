"""How many calls of functions some inputs take: a measure of time that does not hang on the machine.

With each input stands the number of calls that it took ahead of what made it faster; it may take half of them.
"""

import sys

from allboughs.compiling import machine_of
from allboughs.deciding import means, shown, truth
from allboughs.errors import TooMany
from allboughs.leastwoods import least_parting, woods_of
from allboughs.papers import is_answer, is_paper, paper_of
from allboughs.plainroads import pointed
from allboughs.playing import lets_by
from allboughs.pointing import machine_of_points
from tests.drawing_lots import Lots
from tests.lots_of_formulas import all_shorts, joined_rows, some_chains, some_then_all
from tests.support import Case, some_wood_of

SENTENCE = (
    "both", ("some", "aq", ("both", ("root", "aq"), ("some", "bq", ("both", ("left", "aq", "bq"), ("some", "aq", (
        "both", ("right", "bq", "aq"), ("some", "bq", ("both", ("right", "aq", "bq"), ("all", "aq", (
            "either", ("not", ("right", "bq", "aq")), ("some", "bq", ("both", ("right", "aq", "bq"), ("all", "aq", (
                "either", ("not", ("right", "bq", "aq")), ("sub", "aq", "bq"))))))))))))))),
    ("all", "aq", ("either", ("not", ("root", "aq")), ("some", "bq", (
        "both", ("left", "aq", "bq"), ("either", ("left", "aq", "bq"), ("left", "bq", "bq")))))))
FORMULA = (
    "all", "zuq", ("some", "wimu", ("not", (
        "either", ("both", ("left", "zox", "wimu"), ("sub", "wimu", "zox")), ("not", ("left", "wimu", "zuq"))))))
WOOD = ("wood", ("zox",), ((("zox",), 2, 1), ((), 0, 0), ((), 2, 1)))
PARTED = (
    "both", ("all", "nimu", ("all", "hux", ("either", ("sub", "nimu", "pik"), ("root", "pik")))),
    ("either", ("sub", "pik", "hux"), ("left", "hux", "hux")))


def calls_of(function, *row):
    """How many calls of functions written in Python are made by a call."""
    made = [0]

    def count(frame, event, what):
        if event == "call":
            made[0] += 1

    ahead = sys.getprofile()
    sys.setprofile(count)
    try:
        function(*row)
    except TooMany:
        pass
    finally:
        sys.setprofile(ahead)
    return made[0]


def woods_for(lots, scope, many):
    """So many woods of few nodes."""
    return [some_wood_of(lots, scope, lots.randint(1, 5)) for _ in range(many)]


CHAINS = 397785
ROWS = 229788
TWO_BINDERS = 252659
POINTED = 15238
LET_BY = 72596


class Calls(Case):
    def halved(self, many, calls):
        """Raise a failure unless there are at most half as many calls."""
        self.assertLessEqual(sum(calls), many // 2)

    def test_one_sentence(self):
        self.halved(17218, [calls_of(truth, SENTENCE)])
        self.halved(17047, [calls_of(machine_of, SENTENCE)])
        self.halved(17551, [calls_of(is_answer, SENTENCE, truth(SENTENCE))])

    def test_one_formula_on_a_wood(self):
        self.halved(44276, [calls_of(means, FORMULA, WOOD)])
        self.halved(33508, [calls_of(shown, FORMULA, WOOD)])
        self.halved(48595, [calls_of(paper_of, FORMULA, WOOD)])
        self.halved(52341, [calls_of(is_paper, FORMULA, WOOD, paper_of(FORMULA, WOOD))])

    def test_small_woods(self):
        self.halved(139070, [calls_of(least_parting, PARTED, ("not", ("not", PARTED)), 2)])
        self.halved(6194, [calls_of(woods_of, ("aq",), 3)])

    def test_drawn_sentences_and_formulas(self):
        self.halved(CHAINS, [calls_of(truth, formula) for formula in some_chains(Lots(21), 60)])
        for draw, many in ((joined_rows, ROWS), (some_then_all, TWO_BINDERS)):
            lots = Lots(22)
            formulas = [draw(lots, ("hux", "pik", "zuq")) for _ in range(80)]
            self.halved(many, [calls_of(machine_of, formula) for formula in formulas])

    def test_pointed_shorts(self):
        lots = Lots(23)
        points = [pointed(short) for short in all_shorts("x", "y")]
        self.halved(POINTED, [calls_of(machine_of_points, one) for one in points])
        machines = [machine_of_points(one) for one in points]
        self.halved(LET_BY, [calls_of(lets_by, machine, wood) for machine in machines for wood in woods_for(lots, machine[1], 10)])

