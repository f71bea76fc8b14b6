"""The section "The interface": files, functions, parameters, which module imports from which; the limits of L10."""

import ast
import copy
import importlib
import inspect
import pathlib
import unittest

from allboughs.papers import paper_of

FOLDER = pathlib.Path(__file__).resolve().parent.parent / "allboughs"

INTERFACE = {
    "words": {"is_name": "thing"},
    "woods": {
        "letters": "scope", "is_wood": "thing", "node_at": "wood place", "within": "wood place", "tie": "one other",
        "is_tie": "one other thing", "parting": "one other", "least": "wood",
    },
    "conditions": {
        "is_condition": "thing", "goes": "condition", "holds": "condition lot", "plain": "condition",
        "flipped": "condition",
    },
    "machines": {"is_machine": "thing", "pressed": "machine"},
    "building": {
        "contrary": "machine", "meeting": "one other", "joining": "one other", "widened": "machine scope",
        "turned": "machine", "started": "machine state",
    },
    "choices": {"is_choices": "thing", "tidied": "choices", "as_machine": "choices"},
    "steps": {"is_ranks": "thing", "is_step": "ranks thing", "traced": "ranks steps"},
    "histories": {
        "runners": "ranks", "is_history": "ranks thing", "first": "ranks", "led": "ranks history step",
        "told": "ranks steps", "judged_round": "ranks ahead again",
    },
    "models": {"models": "condition", "written": "lots"},
    "chosen": {"chosen": "machine"},
    "formulas": {
        "is_formula": "thing", "is_long": "thing", "is_sentence": "thing", "free_names": "formula", "size_of": "formula",
    },
    "guides": {
        "guide": "choices wood", "refusal": "choices wood", "is_guide": "choices wood thing",
        "is_refusal": "choices wood thing",
    },
    "hiding": {"hidden": "choices name", "marked": "choices wood name"},
    "emptying": {"some_wood": "choices", "bar": "choices", "is_bar": "choices thing"},
    "pruning": {"pruned": "choices"},
    "shorts": {"is_short": "thing", "meant": "short wood", "hand": "short"},
    "compiling": {"machine_of": "formula", "choices_of": "formula"},
    "grafting": {
        "without": "wood names", "bare": "wood names", "joined": "one other", "grafted": "wood place other",
        "exchanged": "wood",
    },
    "games": {
        "is_game": "thing", "swapped": "game", "is_plan": "game thing", "plans": "game", "winner": "game row",
        "flaw": "game sketch",
    },
    "playing": {
        "standings": "machine wood", "game_of": "machine wood", "verdict": "machine wood", "is_verdict": "machine wood thing",
        "lets_by": "machine wood", "won": "machine wood",
    },
    "deciding": {
        "means": "formula wood", "shown": "formula wood", "truth": "sentence", "follows": "one other", "parted": "one other",
        "machines_parted": "one other",
    },
    "fillings": {"fillings": "formula wood"},
    "texts": {"text_of": "formula", "formula_of": "text"},
    "drawing": {"drawn": "game side aims"},
    "tables": {
        "is_table": "thing", "table": "ranks steps", "ranks_told": "table letters", "part": "one other",
        "is_part": "one other thing", "merged": "table",
    },
    "easing": {"is_chain": "table thing", "chain": "table", "eased": "table"},
    "fewest": {"fewest": "game row"},
    "naming": {"renamed": "formula pairs", "is_twin": "one other", "plainly_named": "formula", "mirrored": "formula"},
    "forms": {
        "pushed": "formula", "blocks": "formula", "front": "formula", "inward": "formula", "relative": "formula name",
    },
    "inclusion": {"met": "one other", "outside": "choices", "inside": "one other"},
    "laying": {"is_laid": "machine wood thing", "laid": "machine wood plan"},
    "leastwoods": {"woods_of": "scope many", "least_parting": "one other most"},
    "levels": {"are_levels": "game side thing", "levels": "game side"},
    "wishes": {
        "is_wish": "thing", "keeps": "wish wood", "breach": "wish wood", "is_breach": "wish wood thing", "both": "one other",
    },
    "makers": {
        "settled": "wish", "least_maker": "wish most", "follows": "one other", "allowed": "wish", "begun": "wish letters",
    },
    "melting": {"is_likeness": "machine thing", "likeness": "machine", "melted": "machine"},
    "rounds": {
        "bad_trace": "ranks ahead again", "is_bad_trace": "ranks ahead again thing", "measure": "ranks ahead again",
        "is_measure": "ranks ahead again thing",
    },
    "outsiders": {
        "is_outsider": "thing", "breaks": "wish outsider", "spared": "wish outsider", "is_spared": "wish outsider thing",
    },
    "papers": {
        "paper_of": "formula wood", "is_paper": "formula wood thing", "is_answer": "sentence thing", "standings_of": "formula wood",
        "pared": "formula wood paper",
    },
    "points": {
        "is_points": "thing", "marks_of": "points", "denied": "points", "unrolled": "points", "nodes_of": "points wood",
    },
    "roads": {"is_roads": "thing", "nodes_of_roads": "roads wood"},
    "plainroads": {"as_points": "roads", "pointed": "short"},
    "pointing": {"machine_of_points": "points", "points_of": "machine"},
    "pumping": {"state_at": "choices wood guide place", "looped": "wood high low"},
    "roadmachines": {"machine_of_roads": "roads"},
    "sameness": {"odds": "one other", "sameness": "one other", "is_sameness": "one other thing", "nodes_told": "one other"},
    "spelling": {"spelled": "short", "spelled_out": "formula"},
    "wishing": {"choices_for": "points", "wood_for": "points", "bar_for": "points", "points_parted": "one other"},
    "worths": {"are_worths": "game thing", "worths": "game"},
}
# The classes of the interface, each with its methods.
CLASSES = {"desk": {"Desk": {"say": "row", "kept": ""}}}
ORDER = """errors checks words woods conditions briefs ranking drafts folding machines building choices steps histories models
leading chosen shortforms formulas circles promoting regions picking usefulness guides hiding emptying covering pruning
shortmeanings shorts compiling grafting games winning playing deciding markings fillings texts woodrows desk drawing tableparts
tables easing fewest naming forms inclusion laying leastwoods lifting leveling levels wishes wishgames pairgames makers melting
rounds outsiders papers pointsets points roadsets roads plainroads pointparts unfolding pointing pumping roadparts
roadconditions roadmachines sameness spelling wishing
worths""".split()

WOOD = ("wood", ("x",), ((("x",), 0, 1), ((), 1, 1)))
MACHINE = ("machine", ("x",), ((1, (("go", 0, 0), ("go", 0, 1))), (2, (("go", 0, 0), ("go", 0, 1)))))
CHOICES = ("choices", ("x",), ((1, (((0, 0),), ((1, 1),))), (0, (((1, 1),), ((1, 1),)))))
CONDITION = ("both", ("go", 0, 0), ("either", ("go", 1, 1), ("yes",)))
STEP = ((0, 0), (0, 1), (1, 1))
HISTORY = ((0, 1), ((None, ((0, 1),)),))
FORMULA = ("some", "x", ("both", ("sub", "x", "y"), ("root", "x")))
SENTENCE = ("some", "x", ("root", "x"))
GAME = ("game", ((0, 1, (0, 1)), (1, 2, (0, 2)), (0, 3, (1,))))
PLAN = ("plan", 1, ((0, None), (1, 2), (2, None)))
WIDE = ("wood", ("y", "z"), ((("y",), 1, 0), (("z",), 1, 1)))
TABLE = ("table", (((1, 0), (0, 3)), ((0, 2), (1, 1))))
TURNS = ("wood", ("x",), ((("x",), 1, 0), ((), 0, 0)))
WISH = ("wish", ("x",), ((1, (((0,), (0,)), ((1,), (1,)))), (2, (((0,), (0,)), ((1,), (1,))))))
OUTSIDER = ("outsider", ("x",), (((0, 0), (1, 0)),))
POINTS = ("least", "z", ("either", ("mark", "x"), ("next", 0, ("point", "z"))))
ROADS = ("some", ("once", ("here", ("mark", "x"))))
GUIDE = (((0, 0), (1, 1)), ((1, 1), (1, 1)))
PASSED = {
    "ahead": ((), (STEP,)), "aims": ((), (2,)), "again": ((STEP,),), "choices": (CHOICES,),
    "condition": (CONDITION, ("yes",)), "formula": (FORMULA,), "game": (GAME,), "history": (HISTORY, ((0,), ())),
    "guide": (GUIDE, ()), "high": ((), (0,)), "letters": ((0, 1, 1), ((), ("x",), ())), "lot": (((0, 0),), ()), "lots": ((((0, 0),), ((1, 0),)),), "machine": (MACHINE,), "many": (2,),
    "most": (2,), "name": ("x", "y"), "names": (("x",), ("a", "y")),
    "low": ((0, 1), ()), "one": (WOOD, WIDE, MACHINE, FORMULA, TABLE, CHOICES, WISH, POINTS),
    "other": (WOOD, WIDE, MACHINE, SENTENCE, TABLE, CHOICES, WISH, POINTS), "outsider": (OUTSIDER,),
    "pairs": ((("y", "z"),), (("a", "b"),)), "paper": (paper_of(FORMULA, WIDE), ("no", PLAN)), "place": ((0, 1), ()),
    "plan": (("plan", 0, ((0, 1), (1, 0))), PLAN), "points": (POINTS,),
    "ranks": ((1, 2),), "roads": (ROADS,), "row": (1,), "scope": (("x", "y"),), "sentence": (SENTENCE,), "short": (("road", "x"), ("same", "x", "x")),
    "side": (0, 1), "sketch": (PLAN, ("plan", 0, ((0, 0),))), "state": (1,), "step": (STEP,), "steps": ((STEP, STEP),),
    "table": (TABLE,), "text": ("sub(x,y)", "sub(x"),
    "thing": (WOOD, MACHINE, CHOICES, CONDITION, STEP, HISTORY, FORMULA, "x", None),
    "wish": (WISH,), "wood": (WOOD, WIDE, TURNS, ("wood", (), (((), 0, 0),)), ("wood", ("x",), ((("x",), 1, 1), ((), 1, 1)))),
}


def modules():
    """The names of the modules of the package and their trees."""
    return {path.stem: ast.parse(path.read_text()) for path in sorted(FOLDER.glob("*.py"))}


def functions():
    """All functions of the interface, with the names of their parameters."""
    for module, names in INTERFACE.items():
        for name, parameters in names.items():
            yield getattr(importlib.import_module(f"allboughs.{module}"), name), parameters.split()


def calls():
    """Calls of all functions of the interface with fitting arguments, some of which they refuse."""
    for function, parameters in functions():
        rows = [()]
        for parameter in parameters:
            rows = [(*row, value) for row in rows for value in PASSED[parameter]]
        for row in rows:
            yield function, parameters, row


def outcome(function, *row, **named):
    """What a function tells, or the error that it raises."""
    try:
        return function(*row, **named)
    except ValueError as error:
        return error.__class__, vars(error)


class Interface(unittest.TestCase):
    def test_functions_stand_in_their_files(self):
        for module, names in INTERFACE.items():
            defined = {node.name for node in modules()[module].body if isinstance(node, ast.FunctionDef)}
            self.assertLessEqual(set(names), defined)

    def test_parameters(self):
        for function, parameters in functions():
            told = inspect.signature(function).parameters.values()
            self.assertEqual([parameter.name for parameter in told], parameters, function.__name__)
            for parameter in told:
                self.assertIs(parameter.kind, inspect.Parameter.POSITIONAL_OR_KEYWORD)
                self.assertIs(parameter.default, inspect.Parameter.empty)

    def test_classes_and_their_methods_stand_in_their_files(self):
        for module, classes in CLASSES.items():
            bodies = {node.name: node.body for node in modules()[module].body if isinstance(node, ast.ClassDef)}
            for name, methods in classes.items():
                self.assertLessEqual(set(methods), {node.name for node in bodies[name] if isinstance(node, ast.FunctionDef)})
                of_its_own = getattr(importlib.import_module(f"allboughs.{module}"), name)
                self.assertEqual(list(inspect.signature(of_its_own).parameters), [])
                for method, parameters in methods.items():
                    told = list(inspect.signature(vars(of_its_own)[method]).parameters)
                    self.assertEqual(told, ["self", *parameters.split()])

    def test_by_position_and_by_name_and_the_same_each_time(self):
        met = set()
        for function, parameters, row in calls():
            told = outcome(function, *row)
            self.assertEqual(outcome(function, **dict(zip(parameters, row))), told)
            self.assertEqual(outcome(function, *copy.deepcopy(row)), told)
            if not (isinstance(told, tuple) and told and inspect.isclass(told[0])):
                met.add(function)
        self.assertEqual(met, {function for function, _ in functions()})

    def test_what_is_passed_stays(self):
        for function, _, row in calls():
            kept = copy.deepcopy(row)
            outcome(function, *row)
            self.assertEqual(row, kept)

    def test_the_package_defines_nothing(self):
        self.assertEqual([node.__class__ for node in modules()["__init__"].body], [ast.Expr])

    def test_each_module_imports_only_from_those_ahead(self):
        trees = modules()
        self.assertEqual(sorted([*ORDER, "__init__"]), sorted(trees))
        for at, name in enumerate(ORDER):
            for node in trees[name].body:
                self.assertNotIsInstance(node, ast.Import)
                if isinstance(node, ast.ImportFrom):
                    package, _, module = node.module.partition(".")
                    self.assertEqual(package, "allboughs")
                    self.assertIn(module, ORDER[:at], name)

    def test_size(self):
        for name, tree in modules().items():
            lines = (FOLDER / f"{name}.py").read_text().split("\n")
            self.assertLessEqual(len(lines), 400, name)
            self.assertLessEqual(max(map(len, lines)), 120, name)
            for node in ast.walk(tree):
                if isinstance(node, ast.FunctionDef):
                    self.assertLessEqual(node.end_lineno - node.lineno, 39, node.name)
