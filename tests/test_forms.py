"""Points [85] and [86], and what the example of [88] says of them."""

from allboughs.deciding import means, parted
from allboughs.errors import BadFormula, BadName, BadScope
from allboughs.formulas import free_names, is_formula, size_of
from allboughs.forms import blocks, front, inward, pushed, relative
from tests.meanings import some_formula, some_plain, true_on, wood_for
from tests.support import Case, bits, dice, junk_but
from tests.test_compiling import told_or_most
from tests.test_formulas import boths, nots
from tests.test_naming import LONG, formulas_by_chance

NAMES = ("x", "y", "z")
F, G = ("sub", "x", "y"), ("root", "x")
NOT_FORMULAS = junk_but() + [nots(101), ("sub", "x", "all"), ("both", ("sub", "a", "b"), ("sub", "c", "d")), *LONG]
OTHERS = {"both": "either", "either": "both", "some": "all", "all": "some"}


def parts(formula):
    """All formulas in a formula, as often as they stand in it."""
    told = [formula]
    for part in formula[1:]:
        if isinstance(part, tuple):
            told.extend(parts(part))
    return told


def pushed_by_the_words(formula):
    """Not not f is f; not before all others goes within and turns it into the other one; again and again."""
    if formula[0] == "not":
        inner = formula[1]
        if inner[0] == "not":
            return pushed_by_the_words(inner[1])
        if inner[0] in ("both", "either"):
            return pushed_by_the_words((OTHERS[inner[0]], ("not", inner[1]), ("not", inner[2])))
        if inner[0] in ("some", "all"):
            return pushed_by_the_words((OTHERS[inner[0]], inner[1], ("not", inner[2])))
        return formula
    return tuple(pushed_by_the_words(part) if isinstance(part, tuple) else part for part in formula)


def rows_needed(formula, word):
    """How many rows of binders in front a pushed formula needs if this kind comes first; the first may have none."""
    def pulled(part, kind):
        if part[0] == kind:
            return pulled(part[2], kind)
        if part[0] in ("both", "either"):
            return (part[0], pulled(part[1], kind), pulled(part[2], kind))
        return part

    rows = 0
    while any(part[0] in OTHERS and part[0] in ("some", "all") for part in parts(formula)):
        formula = pulled(formula, word)
        word = OTHERS[word]
        rows += 1
    return rows


def inward_once(formula):
    """One step of [85] at the first place, from the outermost on, where there is one; None if there is none."""
    word = formula[0]
    if word in ("some", "all"):
        _, name, part = formula
        if name not in free_names(part):
            return part
        if part[0] == ("either" if word == "some" else "both"):
            return (part[0], (word, name, part[1]), (word, name, part[2]))
        if part[0] in ("both", "either"):
            if name not in free_names(part[1]):
                return (part[0], part[1], (word, name, part[2]))
            if name not in free_names(part[2]):
                return (part[0], (word, name, part[1]), part[2])
    for at, part in enumerate(formula):
        if isinstance(part, tuple):
            told = inward_once(part)
            if told is not None:
                return (*formula[:at], told, *formula[at + 1:])
    return None


class Pushed(Case):
    def test_by_hand(self):
        f, g = ("root", "a"), ("sub", "a", "b")
        self.assertEqual(pushed(formula=("not", ("some", "a", ("both", f, ("not", g))))), ("all", "a", ("either", ("not", f), g)))
        self.assertEqual(pushed(("not", ("not", f))), f)
        self.assertEqual(pushed(("not", f)), ("not", f))
        self.assertEqual(pushed(("not", ("either", ("not", f), ("all", "b", ("not", g))))), ("both", f, ("some", "b", g)))
        self.assertEqual(pushed(nots(100)), ("not", F))

    def test_100_nodes(self):
        fifty = ("not", boths(25, ("not", ("not", F))))
        self.assertEqual(size_of(fifty), 100)
        self.assertEqual(size_of(pushed(fifty)), 74)
        self.assertEqual(size_of(pushed(("not", boths(33)))), 98)
        self.assertEqual(size_of(pushed(("not", ("some", "a", ("all", "b", boths(33)))))), 100)
        self.many(100, pushed, ("not", boths(34)))
        self.many(100, pushed, ("not", boths(50)))
        self.many(100, pushed, ("not", ("both", ("root", "x"), boths(33))))

    def test_by_the_words(self):
        for formula, _ in formulas_by_chance(350, 400, 10):
            told = pushed(formula)
            self.assertEqual(told, pushed_by_the_words(formula))
            self.assertEqual(pushed(told), told)
            self.assertEqual(free_names(told), free_names(formula))
            for part in parts(told):
                self.assertTrue(part[0] != "not" or part[1][0] in ("sub", "root", "left", "right"))

    def test_it_means_the_same(self):
        chance = dice(351)
        for _ in range(150):
            formula = some_plain(chance, chance.randint(1, 5), NAMES, 0.6)
            wood = wood_for(chance, free_names(formula))
            self.assertIs(true_on(pushed(formula), wood), true_on(formula, wood))
        mean_the_same(self, pushed, 352)

    def test_errors(self):
        for thing in NOT_FORMULAS:
            for function in (pushed, blocks, front, inward):
                self.fails(BadFormula, function, thing)


def mean_the_same(case, function, seed, many=120):
    """Look at what a function tells of formulas with binders on drawn woods."""
    met = 0
    for formula, chance in formulas_by_chance(seed, many, 6):
        told = told_or_most(function, formula)
        if not isinstance(told, int):
            wood = wood_for(chance, free_names(formula), 3)
            fine, new = told_or_most(means, formula, wood), told_or_most(means, told, wood)
            if fine in (True, False) and new in (True, False):
                met += 1
                case.assertIs(new, fine, formula)
    case.assertGreater(met, many // 3)


class Blocks(Case):
    def test_by_hand(self):
        f, g = ("root", "a"), ("sub", "b", "b")
        self.assertEqual(blocks(formula=("either", ("some", "a", f), ("all", "b", g))), (2, 2))
        self.assertEqual(blocks(f), (0, 0))
        self.assertEqual(blocks(("not", f)), (0, 0))
        self.assertEqual(blocks(("some", "a", f)), (1, 2))
        self.assertEqual(blocks(("not", ("some", "a", f))), (2, 1))
        self.assertEqual(blocks(("all", "a", ("some", "b", f))), (3, 2))
        self.assertEqual(blocks(("some", "a", ("all", "a", ("some", "a", f)))), (3, 4))
        self.assertEqual(blocks(("some", "a", ("not", ("all", "a", f)))), (1, 2))
        self.assertEqual(blocks(("some", "a", ("both", ("some", "a", f), ("all", "b", g)))), (2, 3))

    def test_no_too_many(self):
        self.assertEqual(blocks(("not", boths(50))), (0, 0))
        self.assertEqual(blocks(("not", ("some", "a", boths(49)))), (2, 1))

    def test_by_the_words(self):
        for formula, _ in formulas_by_chance(353, 400, 12):
            told = pushed(formula)
            self.assertEqual(blocks(formula), (rows_needed(told, "some"), rows_needed(told, "all")), formula)


class Front(Case):
    def held(self, formula, told):
        """Look at what front tells of a formula."""
        whole = pushed(formula)
        self.assertTrue(is_formula(told))
        row, rest = [], told
        while rest[0] in ("some", "all"):
            row.append(rest[0])
            rest = rest[2]
        self.assertFalse(any(part[0] in ("some", "all") for part in parts(rest)))
        self.assertEqual(sorted(row), sorted(part[0] for part in parts(whole) if part[0] in ("some", "all")))
        rows = sum(at == 0 or row[at] != row[at - 1] for at in range(len(row)))
        self.assertEqual(rows, min(blocks(formula)))
        self.assertEqual(free_names(told), free_names(formula))
        for word in ("sub", "root", "left", "right", "not", "both", "either"):
            self.assertEqual([part[0] for part in parts(told)].count(word), [part[0] for part in parts(whole)].count(word))

    def test_by_hand(self):
        told = front(formula=("both", ("some", "a", ("root", "a")), ("all", "a", ("sub", "a", "x"))))
        self.held(("both", ("some", "a", ("root", "a")), ("all", "a", ("sub", "a", "x"))), told)
        self.assertIsNone(parted(("both", ("some", "a", ("root", "a")), ("all", "a", ("sub", "a", "x"))), told))
        self.assertEqual(front(F), F)
        self.assertEqual(front(("not", ("not", F))), F)
        formula = ("not", ("some", "a", ("all", "b", ("sub", "a", "b"))))
        self.assertEqual(front(formula), ("all", "a", ("some", "b", ("not", ("sub", "a", "b")))))

    def test_fewest_rows(self):
        formula = ("both", ("all", "a", ("some", "b", ("sub", "a", "b"))), ("some", "c", ("root", "c")))
        told = front(formula)
        self.held(formula, told)
        self.assertEqual([told[0], told[2][0], told[2][2][0]], ["all", "some", "some"])
        formula = ("either", ("some", "a", ("all", "b", ("sub", "a", "b"))), ("all", "c", ("root", "c")))
        told = front(formula)
        self.held(formula, told)
        self.assertEqual([told[0], told[2][0], told[2][2][0]], ["some", "all", "all"])

    def test_binders_that_are_not_needed(self):
        for formula in (
            ("both", ("some", "a", ("root", "x")), ("all", "a", ("root", "x"))), ("some", "a", ("some", "a", ("some", "a", ("root", "a")))),
            ("both", ("root", "a"), ("some", "a", ("all", "a", ("root", "a")))), ("either", ("some", "x", G), ("some", "x", ("sub", "x", "x"))),
            ("both", ("root", "a"), ("not", ("some", "a", ("sub", "b", "b")))),
        ):
            told = front(formula)
            self.held(formula, told)
            self.assertIsNone(parted(formula, told))

    def test_3_names_and_4(self):
        self.held(("both", F, ("some", "z", ("root", "z"))), front(("both", F, ("some", "z", ("root", "z")))))
        self.many(3, front, ("both", F, ("some", "z", ("some", "z", ("root", "z")))))
        self.many(3, front, ("both", ("sub", "x", "y"), ("both", ("root", "z"), ("some", "x", G))))
        four = G
        for _ in range(4):
            four = ("some", "x", four)
        self.many(3, front, four)
        self.held(four[2], front(four[2]))
        # The names are counted ahead of the nodes.
        self.many(3, front, ("not", ("both", boths(47), ("some", "z", ("some", "z", ("root", "z"))))))
        self.many(100, front, ("not", ("both", boths(47), ("some", "z", ("root", "z")))))

    def test_by_chance(self):
        chance = dice(354)
        met = 0
        for _ in range(1200):
            formula = some_formula(chance, chance.randint(2, 9), ("x", "y", "a"))
            binders = [part for part in parts(formula) if part[0] in ("some", "all")]
            if not is_formula(formula) or len(binders) < 2:
                continue
            if len(free_names(formula)) + len(binders) > 3:
                self.many(3, front, formula)
                continue
            told = front(formula)
            self.held(formula, told)
            met += 1
            if chance.random() < 0.4:
                apart = told_or_most(parted, formula, told)
                self.assertTrue(apart is None or isinstance(apart, int), formula)
        self.assertGreater(met, 80)


class Inward(Case):
    def test_by_hand(self):
        f, g, h = ("root", "x"), ("root", "y"), ("sub", "x", "y")
        self.assertEqual(inward(formula=("some", "x", ("either", f, g))), ("either", ("some", "x", f), g))
        self.assertEqual(inward(("some", "x", ("both", f, g))), ("both", ("some", "x", f), g))
        self.assertEqual(inward(("some", "y", ("both", f, g))), ("both", f, ("some", "y", g)))
        self.assertEqual(inward(("some", "x", ("both", f, h))), ("some", "x", ("both", f, h)))
        self.assertEqual(inward(("all", "x", ("both", f, h))), ("both", ("all", "x", f), ("all", "x", h)))
        self.assertEqual(inward(("all", "x", ("either", f, h))), ("all", "x", ("either", f, h)))
        self.assertEqual(inward(("all", "z", h)), h)
        self.assertEqual(inward(("not", ("some", "x", ("both", f, h)))), ("all", "x", ("either", ("not", f), ("not", h))))
        self.assertEqual(inward(("not", ("some", "x", ("either", f, g)))), ("both", ("all", "x", ("not", f)), ("not", g)))
        self.assertEqual(inward(("some", "x", ("some", "y", ("either", h, f)))), (
            "either", ("some", "x", ("some", "y", h)), ("some", "x", f)))
        self.assertEqual(inward(("some", "x", ("all", "y", ("either", h, f)))), (
            "either", ("some", "x", ("all", "y", h)), ("some", "x", f)))
        self.assertEqual(inward(("some", "x", ("all", "y", ("both", h, f)))), ("some", "x", ("both", ("all", "y", h), f)))

    def test_by_the_words(self):
        for formula, _ in formulas_by_chance(355, 400, 9):
            told = pushed(formula)
            while inward_once(told) is not None:
                told = inward_once(told)
            self.assertEqual(inward(formula), told, formula)
            self.assertTrue(is_formula(told))

    def test_it_means_the_same(self):
        mean_the_same(self, inward, 356)

    def test_100_nodes(self):
        leaf = ("sub", "x", "y")
        wide = boths(33, leaf)
        told = inward(("all", "x", wide))
        self.assertEqual(size_of(told), 98)
        self.many(100, inward, ("all", "x", boths(34, leaf)))
        self.many(100, inward, ("not", boths(34)))
        self.many(100, inward, ("all", "z", ("not", ("not", ("not", boths(34))))))
        self.assertEqual(size_of(inward(("all", "z", boths(49, leaf)))), 97)


def relative_by_the_words(formula, name):
    """What [86] says of relative, but for its errors."""
    word = formula[0]
    if word == "some":
        return ("some", formula[1], ("both", ("sub", formula[1], name), relative_by_the_words(formula[2], name)))
    if word == "all":
        return ("all", formula[1], ("either", ("not", ("sub", formula[1], name)), relative_by_the_words(formula[2], name)))
    return tuple(relative_by_the_words(part, name) if isinstance(part, tuple) else part for part in formula)


class Relative(Case):
    def test_by_the_words(self):
        met = 0
        for formula, chance in formulas_by_chance(359, 300, 9, ("x", "y", "z")):
            due = relative_by_the_words(formula, "a")
            if is_formula(due):
                met += 1
                self.assertEqual(relative(formula, "a"), due)
        self.assertGreater(met, 100)

    def test_by_hand(self):
        self.assertEqual(relative(formula=("some", "a", ("root", "a")), name="x"), ("some", "a", ("both", ("sub", "a", "x"), ("root", "a"))))
        self.assertEqual(relative(("all", "a", ("not", ("root", "a"))), "x"), (
            "all", "a", ("either", ("not", ("sub", "a", "x")), ("not", ("root", "a")))))
        self.assertEqual(relative(("not", ("both", F, ("either", G, ("root", "y")))), "x"), ("not", ("both", F, ("either", G, ("root", "y")))))
        nested = ("some", "a", ("all", "b", ("sub", "a", "b")))
        self.assertEqual(relative(nested, "c"), (
            "some", "a", ("both", ("sub", "a", "c"), ("all", "b", ("either", ("not", ("sub", "b", "c")), ("sub", "a", "b"))))))
        self.assertEqual(relative(F, "z"), F)
        self.assertEqual(relative(F, "x"), F)

    def test_bad_names(self):
        formula = ("both", ("root", "x"), ("some", "a", ("root", "x")))
        for name in junk_but("x", "wood", "yes") + ["a", "all", "", "X", "abcdefghi", ("x",)]:
            self.fails(BadName, relative, formula, name)
        self.assertTrue(is_formula(relative(formula, "x")))
        self.assertTrue(is_formula(relative(formula, "b")))

    def test_bad_scope_and_100_nodes(self):
        three = ("some", "z", ("both", F, ("root", "z")))
        self.fails(BadScope, relative, three, "a")
        self.assertTrue(is_formula(relative(three, "x")))
        self.fails(BadScope, relative, ("some", "x", ("some", "y", ("some", "z", ("both", F, ("root", "z"))))), "a")
        deep = F
        for _ in range(33):
            deep = ("some", "z", deep)
        self.assertEqual(size_of(relative(deep, "x")), 100)
        self.many(100, relative, ("some", "z", deep), "x")
        self.many(100, relative, ("not", deep), "x")
        for _ in range(10):
            three = ("some", "a", ("some", "b", ("some", "c", three)))
        self.many(100, relative, ("some", "a", ("some", "b", ("some", "c", three))), "x")
        self.fails(BadScope, relative, ("some", "a", ("some", "b", ("some", "c", three))), "d")

    def test_where_all_places_bear_the_name(self):
        met = 0
        for formula, chance in formulas_by_chance(357, 150, 5, ("x", "y")):
            told = told_or_most(relative, formula, "a")
            wood = wood_for(chance, free_names(formula), 3)
            full = ("wood", tuple(sorted((*wood[1], "a"))), tuple((tuple(sorted((*letter, "a"))), left, right) for letter, left, right in wood[2]))
            fine, new = told_or_most(means, formula, wood), told_or_most(means, told, full)
            if fine in (True, False) and new in (True, False):
                met += 1
                self.assertIs(new, fine)
        self.assertGreater(met, 80)

    def test_where_none_does(self):
        """Some and all alike speak of the bare set alone."""
        chance = dice(358)
        for _ in range(100):
            part = some_plain(chance, 2, ("x", "y"))
            if "x" in free_names(part):
                wood = wood_for(chance, ("y",), 3)
                bare = ("wood", ("a", "x", "y"), wood[2])
                for word in ("some", "all"):
                    self.assertIs(means(relative((word, "x", part), "a"), bare), true_on(part, bare))

    def test_it_speaks_of_parts(self):
        formula = relative(("some", "a", ("root", "a")), "x")
        for letter in bits(("x",)):
            self.assertIs(means(formula, ("wood", ("x",), ((letter, 1, 1), (("x",), 1, 0)))), letter == ("x",))

    def test_errors(self):
        for thing in NOT_FORMULAS:
            self.fails(BadFormula, relative, thing, None)
