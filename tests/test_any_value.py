"""Every judge of the program takes any value: what fits, spoiled at each of its parts, is told, and nothing is raised."""

import random

from tests.support import Case

from allboughs.choices import is_choices
from allboughs.compiling import choices_of, machine_of
from allboughs.conditions import is_condition
from allboughs.deciding import truth
from allboughs.easing import chain, is_chain
from allboughs.emptying import bar, is_bar
from allboughs.formulas import is_formula, is_long, is_sentence
from allboughs.games import is_game, is_plan, plans
from allboughs.guides import guide, is_guide, is_refusal, refusal
from allboughs.histories import is_history, told
from allboughs.laying import is_laid, laid
from allboughs.levels import are_levels, levels
from allboughs.machines import is_machine
from allboughs.makers import settled
from allboughs.melting import is_likeness, likeness
from allboughs.outsiders import is_outsider, is_spared, spared
from allboughs.papers import is_answer, is_paper, paper_of
from allboughs.playing import is_verdict, verdict
from allboughs.points import is_points
from allboughs.roads import is_roads
from allboughs.rounds import bad_trace, is_bad_trace, is_measure, measure
from allboughs.sameness import is_sameness, sameness
from allboughs.shorts import is_short
from allboughs.steps import is_ranks, is_step
from allboughs.tables import is_part, is_table, part, table
from allboughs.wishes import breach, is_breach, is_wish
from allboughs.woods import is_tie, is_wood, tie
from allboughs.words import is_name
from allboughs.worths import are_worths, worths

WOOD = ("wood", ("x",), ((("x",), 1, 2), ((), 1, 2), ((), 2, 2)))
GAME = ("game", ((0, 1, (0, 1)), (1, 2, (0, 2)), (0, 3, (1,)), (1, 4, (3, 1))))
MACHINE = ("machine", ("x",), ((1, (("go", 0, 0), ("go", 0, 1))), (2, (("go", 0, 0), ("both", ("go", 0, 1), ("yes",))))))
CHOICES = ("choices", ("x",), ((1, (((0, 0), (0, 1)), ((1, 1),))), (0, (((1, 1),), ((1, 1),)))))
STUCK = ("choices", ("x",), ((1, (((0, 0),), ((0, 0), (0, 1)))), (1, ((), ((1, 1),)))))
SENTENCE = ("all", "a", ("some", "b", ("both", ("left", "a", "b"), ("not", ("root", "b")))))
FORMULA = ("some", "a", ("both", ("sub", "a", "x"), ("root", "a")))
RANKS = (1, 2)
BY_A = (((0, 0), (0, 1), (1, 1)),)
BY_B = (((0, 1), (1, 0)),)
WISH = ("wish", ("x",), ((1, (((0,), (0,)), ((1,), (1,)))), (2, (((0,), (0,)), ((2,), (2,)))), (1, (((2,), (2,)), ((2,), (2,))))))
HARD = ("wish", ("x",), ((0, (((1,), (0,)), ((0,), (1,)))), (1, (((1,), (1,)), ((1,), (1,))))))
POINTS = ("most", "z", ("least", "y", ("either", ("both", ("mark", "x"), ("next", 0, ("point", "z"))), ("next", 1, ("point", "y")))))
ROADS = ("both", ("every", ("until", ("goes", 0), ("here", ("mark", "x")))), ("not", ("some", ("ever", ("here", ("bare", "y"))))))
TABLE = table(RANKS, BY_A + BY_B)
OTHER_TABLE = ("table", (((0, 1), (0, 2)),))
LEVELS = levels(GAME, 1)
OUTSIDER = settled(HARD)[1]
ODD_VALUES = (
    None, True, False, -1, 0, 1, 2, 400, 10 ** 40, -10 ** 40, 1.0, "", "x", "yes", "point", b"x", (), (0,), [], [0, 1], {}, {0: 1},
    ((), ()), ("x", "x"), ((((),),),), object(), range(2),
)

# Each judge with what stands ahead of the thing that is judged, and things that fit.
JUDGES = (
    (is_name, (), ("abc",)),
    (is_wood, (), (WOOD,)),
    (is_tie, (WOOD, WOOD), (tie(WOOD, WOOD),)),
    (is_condition, (), (("both", ("go", 1, 3), ("either", ("yes",), ("no",))),)),
    (is_machine, (), (MACHINE, machine_of(FORMULA))),
    (is_choices, (), (CHOICES, choices_of(FORMULA))),
    (is_ranks, (), ((1, 2, 61),)),
    (is_step, (RANKS,), BY_A + BY_B),
    (is_history, (RANKS,), (told(RANKS, BY_A)[0], told(RANKS, BY_A + BY_B)[0])),
    (is_formula, (), (FORMULA, SENTENCE)),
    (is_long, (), (("both", ("often", "x"), FORMULA),)),
    (is_sentence, (), (SENTENCE, ("all", "x", ("thread", "x")))),
    (is_guide, (CHOICES, WOOD), (guide(CHOICES, WOOD),)),
    (is_refusal, (STUCK, WOOD), (refusal(STUCK, WOOD),)),
    (is_bar, (STUCK,), (bar(STUCK),)),
    (is_short, (), (("below", "x", "y"), ("one", "x"))),
    (is_game, (), (GAME,)),
    (is_plan, (GAME,), plans(GAME)),
    (is_verdict, (MACHINE, WOOD), (verdict(MACHINE, WOOD),)),
    (is_laid, (MACHINE, ("wood", ("x",), ((("x",), 0, 0),))), (laid(MACHINE, ("wood", ("x",), ((("x",), 0, 0),)), verdict(MACHINE, ("wood", ("x",), ((("x",), 0, 0),)))[1]),)),
    (is_table, (), (TABLE,)),
    (is_chain, (TABLE,), (chain(TABLE), (((1, 0),), ((1, 0), (1, 1))))),
    (is_part, (TABLE, OTHER_TABLE), (part(TABLE, OTHER_TABLE),)),
    (are_levels, (GAME, 1), (LEVELS,)),
    (is_wish, (), (WISH, HARD)),
    (is_breach, (WISH, WOOD), (breach(WISH, WOOD),)),
    (is_likeness, (MACHINE,), (likeness(MACHINE), ((0,), (1,)))),
    (is_bad_trace, (RANKS, BY_B + BY_B, BY_A), (bad_trace(RANKS, BY_B + BY_B, BY_A), ((0, 1, 0), (0, 0, 0)))),
    (is_measure, (RANKS, (), BY_B), (measure(RANKS, (), BY_B),)),
    (is_outsider, (), (OUTSIDER,)),
    (is_spared, (WISH, ("outsider", ("x",), (((0, 0), (1, 1)), ((1, 0), (0, 1))))), (spared(WISH, ("outsider", ("x",), (((0, 0), (1, 1)), ((1, 0), (0, 1))))),)),
    (is_paper, (FORMULA, WOOD), (paper_of(FORMULA, WOOD),)),
    (is_answer, (SENTENCE,), (truth(SENTENCE),)),
    (is_points, (), (POINTS,)),
    (is_roads, (), (ROADS,)),
    (is_sameness, (("sub", "x", "y"), ("root", "x")), (sameness(("sub", "x", "y"), ("root", "x")),)),
    (is_sameness, (FORMULA, ("not", ("not", FORMULA))), (sameness(FORMULA, ("not", ("not", FORMULA))),)),
    (are_worths, (GAME,), (worths(GAME),)),
)


def spoiled(thing, odd):
    """The thing with one part of it left out, doubled, exchanged, of another kind or in a tuple too many."""
    found = [*odd, (thing,), [thing]]
    if isinstance(thing, dict):
        rows = list(thing.items())
        found.extend(dict(rows[:at] + rows[at + 1:]) for at in range(len(rows)))
        for at, (key, value) in enumerate(rows):
            found.extend(dict(rows[:at] + [(key, wrong)] + rows[at + 1:]) for wrong in spoiled(value, odd))
            keys = [wrong for wrong in spoiled(key, odd) if is_key(wrong)]
            found.extend(dict(rows[:at] + [(wrong, value)] + rows[at + 1:]) for wrong in keys)
    if isinstance(thing, str):
        found.extend([thing + "s", thing[:-1], thing.upper(), (thing, thing), list(thing), tuple(thing), thing.encode()])
    elif isinstance(thing, int):
        found.extend([thing + 1, thing - 1, bool(thing), float(thing), str(thing), -thing - 1, thing + 10 ** 9])
    elif isinstance(thing, tuple):
        found.append(list(thing))
        for at, below in enumerate(thing):
            ahead, behind = thing[:at], thing[at + 1:]
            found.extend([ahead + behind, (*ahead, below, below, *behind), ahead])
            if behind:
                found.append((*ahead, behind[0], below, *behind[1:]))
            found.extend((*ahead, wrong, *behind) for wrong in spoiled(below, odd))
    return found


def is_key(thing):
    """Whether it can be the key of a dict."""
    try:
        hash(thing)
    except TypeError:
        return False
    return True


class AnyValue(Case):
    def test_what_fits_is_taken(self):
        for judge, ahead, things in JUDGES:
            for thing in things:
                self.assertIs(judge(*ahead, thing), True, judge.__name__)

    def test_spoiled_once(self):
        for judge, ahead, things in JUDGES:
            taken = 0
            for thing in things:
                for wrong in spoiled(thing, ODD_VALUES):
                    told_of = judge(*ahead, wrong)
                    self.assertIn(told_of, (True, False), judge.__name__)
                    self.assertIsInstance(told_of, bool, judge.__name__)
                    taken += 0 if told_of else 1
            self.assertGreater(taken, 5, judge.__name__)

    def test_spoiled_twice(self):
        dice = random.Random(801)
        for judge, ahead, things in JUDGES:
            for thing in things:
                once = spoiled(thing, ODD_VALUES)
                for _ in range(30):
                    for wrong in dice.sample(spoiled(dice.choice(once), ODD_VALUES), 20):
                        self.assertIsInstance(judge(*ahead, wrong), bool, judge.__name__)
