"""Some of the rules of the language, looked for in the trees of the files of the package."""

import ast
import builtins
import pathlib
import unittest

FOLDER = pathlib.Path(__file__).resolve().parent.parent / "allboughs"
ALLOWED = set(
    """len range enumerate zip min max sum abs sorted reversed int str bool bytes list tuple dict set frozenset isinstance
    ord repr any all divmod iter next ValueError True False None super""".split())
# Methods of builtin values that the package may call.
CALLED = set(
    """append clear copy count endswith extend find get index insert isalnum isalpha isdigit islower isspace isupper items
    join keys ljust lower lstrip partition pop remove replace reverse rfind rjust rpartition rsplit rstrip setdefault split
    splitlines startswith strip update upper values zfill bit_length add discard sort isascii""".split())
AT_ONCE = ("zip", "enumerate", "reversed")
TAKERS = ("list", "tuple", "dict", "sorted", "sum", "any", "all", "enumerate", "zip", "min", "max")
WORDS = set(
    """register mro elements open input law version_info with_traceback add_note type typing enum id dir eval exec vars
    compile globals locals help exit quit hash""".split())


def trees():
    """The names of the files of the package, and their trees."""
    return [(path.stem, ast.parse(path.read_text())) for path in sorted(FOLDER.glob("*.py"))]


def methods(tree):
    """The names of the methods of all classes of a file."""
    classes = [node for node in ast.walk(tree) if isinstance(node, ast.ClassDef)]
    return {node.name for one in classes for node in one.body if isinstance(node, ast.FunctionDef)}


def parents(tree):
    """For each node of a tree the node in which it stands."""
    return {child: node for node in ast.walk(tree) for child in ast.iter_child_nodes(node)}


def handed_on(tree, known):
    """The rows in which one of the known methods stands as a value that is neither called nor a key."""
    above = parents(tree)
    rows = []
    for node in ast.walk(tree):
        if isinstance(node, ast.Attribute) and node.attr in known and isinstance(node.ctx, ast.Load):
            around = above[node]
            called = isinstance(around, ast.Call) and around.func is node
            if not called and not (isinstance(around, ast.keyword) and around.arg == "key"):
                rows.append(node.lineno)
    return rows


def bound_names(function):
    """The names that a function binds: parameters, targets, nested functions."""
    names = []
    for node in ast.walk(function):
        if isinstance(node, ast.arg):
            names.append(node.arg)
        elif isinstance(node, ast.Name) and not isinstance(node.ctx, ast.Load):
            names.append(node.id)
        elif isinstance(node, ast.FunctionDef) and node is not function:
            names.append(node.name)
    return names


def top_names(tree):
    """The names that a file binds at its top: imports, functions, classes, values."""
    names = []
    for node in tree.body:
        if isinstance(node, ast.ImportFrom):
            names.extend(alias.asname or alias.name for alias in node.names)
        elif isinstance(node, (ast.FunctionDef, ast.ClassDef)):
            names.append(node.name)
        elif isinstance(node, ast.Assign):
            names.extend(target.id for target in node.targets)
    return names


def makes_set(node):
    """Whether a node of a tree makes a set: a set literal, a set comprehension, a call of set."""
    if isinstance(node, ast.Call) and isinstance(node.func, ast.Name):
        return node.func.id in ("set", "frozenset")
    return isinstance(node, (ast.Set, ast.SetComp))


def fits_set(node, around):
    """Whether a set may stand so: alone in sorted or len, without keywords, behind in, or beside == of another one."""
    if isinstance(around, ast.Call) and isinstance(around.func, ast.Name) and around.func.id in ("sorted", "len"):
        return around.args == [node] and not around.keywords
    if not isinstance(around, ast.Compare) or len(around.ops) != 1:
        return False
    if isinstance(around.ops[0], (ast.In, ast.NotIn)):
        return around.comparators[0] is node
    both = makes_set(around.left) and makes_set(around.comparators[0])
    return both and isinstance(around.ops[0], (ast.Eq, ast.NotEq))


def misplaced_sets(tree):
    """The rows with a set in a place that L24 does not name. The package keeps no sets, though L24 would let it."""
    above = parents(tree)
    rows = []
    for node in ast.walk(tree):
        if makes_set(node) and not fits_set(node, above[node]):
            rows.append(node.lineno)
        if isinstance(node, ast.Call) and isinstance(node.func, ast.Name) and node.func.id == "set" and any(map(makes_set, node.args)):
            rows.append(node.lineno)
    return sorted(set(rows))


class Form(unittest.TestCase):
    def test_the_judge_of_methods_that_are_handed_on(self):
        """A method as a value is found, a method that is called or a key is not."""
        text = "class A:\n    def told(self):\n        return 0\n\n\ndef f(a, rows):\n    {}\n"
        for row, found in (
            ("return a.told()", []), ("return sorted(rows, key=a.told)", []), ("return f(a.told, rows)", [7]), ("told = a.told", [7]),
            ("return [a.told]", [7]), ("return f(a, rows=a.told)", [7]), ("return a.told().told", [7]),
        ):
            tree = ast.parse(text.format(row))
            self.assertEqual(handed_on(tree, methods(tree)), found, row)

    def test_no_method_is_handed_on(self):
        known = CALLED.union(*[methods(tree) for _, tree in trees()])
        for name, tree in trees():
            self.assertEqual(handed_on(tree, known), [], name)

    def test_names_are_bound_once_and_hide_nothing(self):
        for name, tree in trees():
            top = top_names(tree)
            self.assertEqual(len(top), len(set(top)), name)
            barred = {one for one in top if one not in [node.name for node in tree.body if isinstance(node, ast.FunctionDef)]}
            for function in [node for node in ast.walk(tree) if isinstance(node, ast.FunctionDef)]:
                for bound in bound_names(function):
                    self.assertNotIn(bound, barred, (name, function.name))
                    self.assertNotIn(bound, dir(builtins), (name, function.name))
                    self.assertNotIn(bound, WORDS, (name, function.name))
            for one in top:
                self.assertNotIn(one, dir(builtins), name)

    def test_builtins(self):
        for name, tree in trees():
            for node in ast.walk(tree):
                if isinstance(node, ast.Name) and node.id in dir(builtins):
                    self.assertIn(node.id, ALLOWED, (name, node.lineno))

    def test_methods_of_values(self):
        known = CALLED.union(*[methods(tree) for _, tree in trees()])
        for name, tree in trees():
            for node in ast.walk(tree):
                if isinstance(node, ast.Call) and isinstance(node.func, ast.Attribute):
                    self.assertIn(node.func.attr, known, (name, node.lineno))

    def test_no_statements_and_expressions_outside_the_language(self):
        barred = (
            ast.Global, ast.AsyncFunctionDef, ast.Await, ast.Yield, ast.YieldFrom, ast.Import, ast.Div, ast.Set, ast.SetComp,
            ast.AnnAssign, ast.With)
        for name, tree in trees():
            for node in ast.walk(tree):
                if isinstance(node, (ast.Set, ast.SetComp)):
                    continue
                self.assertNotIsInstance(node, barred, (name, getattr(node, "lineno", 0)))
                if isinstance(node, ast.FunctionDef):
                    self.assertEqual(node.decorator_list, [], (name, node.name))
                if isinstance(node, ast.Constant):
                    self.assertNotIsInstance(node.value, (float, complex), (name, node.lineno))
                    if isinstance(node.value, str):
                        self.assertNotIn("%", node.value, (name, node.lineno))

    def test_what_is_iterated_at_once(self):
        for name, tree in trees():
            above = parents(tree)
            for node in ast.walk(tree):
                if not isinstance(node, ast.Call):
                    continue
                word = node.func.id if isinstance(node.func, ast.Name) else getattr(node.func, "attr", "")
                if word in AT_ONCE or word in ("items", "keys", "values"):
                    around = above[node]
                    fine = isinstance(around, (ast.For, ast.comprehension))
                    fine = fine or isinstance(around, ast.Call) and isinstance(around.func, ast.Name) and around.func.id in TAKERS
                    self.assertTrue(fine, (name, node.lineno))

    def test_the_judge_of_sets(self):
        """Only the places that L24 names are taken: no keyword of sorted, no set that is kept, iterated, passed on."""
        fine = (
            "sorted(set(xs))", "sorted({x for x in xs})", "len({x for x in xs}) == 1", "len(set(xs)) < 2", "y in {1, y}", "y not in set(xs)",
            "set(xs) == {x for x in ys}", "set(xs) != set(ys)", "sorted({x for x in xs})[::-1]", "sorted(xs, reverse=True)")
        wrong = (
            "sorted({x for x in xs}, reverse=True)", "sorted(set(xs), key=len)", "sorted({x for x in xs}, key=lambda x: x)", "list(set(xs))",
            "max({x for x in xs})", "[x for x in set(xs)]", "{x for x in xs}", "tuple({x for x in xs})", "set(xs) == ys", "sum(set(xs))",
            "set(xs) in ys", "[set(xs)]", "f(set(xs))", "sorted(set({x for x in xs}))", "sorted(set(set(xs)))", "len(xs, set(xs))",
            "sorted(set(xs) | set(ys))", "frozenset(xs)", "set(xs) < set(ys)", "x == {1} == y")
        for text in fine:
            self.assertEqual(misplaced_sets(ast.parse(text)), [], text)
        for text in wrong:
            self.assertEqual(misplaced_sets(ast.parse(text)), [1], text)
        self.assertEqual(misplaced_sets(ast.parse("a = 0\nfor x in {1, 2}:\n    pass\nseen = set()\n")), [2, 4])

    def test_sets(self):
        for name, tree in trees():
            self.assertEqual(misplaced_sets(tree), [], name)

    def test_characters(self):
        for path in sorted(FOLDER.glob("*.py")):
            text = path.read_text()
            self.assertTrue(all(sign == "\n" or " " <= sign <= "~" for sign in text), path.name)

    def test_is(self):
        for name, tree in trees():
            for node in ast.walk(tree):
                if isinstance(node, ast.Compare) and any(isinstance(op, (ast.Is, ast.IsNot)) for op in node.ops):
                    last = node.comparators[-1]
                    self.assertTrue(isinstance(last, ast.Constant) and last.value in (None, True, False), (name, node.lineno))
