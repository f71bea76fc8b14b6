"""Point [87] but for nodes_told, and what the example of [88] says of it."""

import itertools

from allboughs.deciding import follows, means, parted
from allboughs.errors import BadFormula, BadMany, BadScope
from allboughs.formulas import free_names
from allboughs.leastwoods import least_parting, woods_of
from allboughs.woods import is_wood, within
from tests.meanings import some_formula, some_plain, true_on
from tests.support import Case, bits, dice, junk_but
from tests.test_compiling import TOO_MANY, told_or_most
from tests.test_formulas import nots
from tests.test_naming import LONG

X, XY, XYZ = ("x",), ("x", "y"), ("x", "y", "z")
F, G = ("sub", "x", "y"), ("root", "x")
ROOT_IN_X = ("some", "a", ("both", ("root", "a"), ("sub", "a", "x")))


def woods_by_the_words(scope, many):
    """All woods with so many nodes that are numbered as a walk meets them, out of all rows of nodes."""
    rows = list(itertools.product(bits(scope), range(many), range(many)))
    woods = [("wood", scope, told) for told in itertools.product(rows, repeat=many)]
    return sorted(wood for wood in woods if within(wood, ()) == wood)


def first_parting(one, other, most):
    """The first wood on which two formulas without binders part, by trying all."""
    scope = tuple(sorted(set(free_names(one) + free_names(other))))
    for many in range(1, most + 1):
        for wood in woods_by_the_words(scope, many):
            if true_on(one, wood) != true_on(other, wood):
                return wood
    return None


class WoodsOf(Case):
    def test_by_hand(self):
        self.assertEqual(woods_of(scope=(), many=1), [("wood", (), (((), 0, 0),))])
        self.assertEqual(woods_of(X, 1), [("wood", X, (((), 0, 0),)), ("wood", X, ((X, 0, 0),))])
        two = woods_of((), 2)
        self.assertEqual(two[0], ("wood", (), (((), 0, 1), ((), 0, 0))))
        self.assertEqual(two[-1], ("wood", (), (((), 1, 1), ((), 1, 1))))
        self.assertIsInstance(two, list)

    def test_all_rows_tried(self):
        for scope, many in (((), 1), ((), 2), ((), 3), (X, 1), (X, 2), (X, 3), (XY, 1), (XY, 2), (XYZ, 1), (("b", "c"), 2), (("q",), 3)):
            told = woods_of(scope, many)
            self.assertEqual(told, woods_by_the_words(scope, many))
            self.assertTrue(all(is_wood(wood) for wood in told))

    def test_how_many(self):
        for scope, numbers in (((), (1, 12, 216)), (X, (2, 48, 1728)), (XY, (4, 192)), (XYZ, (8, 768))):
            self.assertEqual([len(woods_of(scope, many + 1)) for many in range(len(numbers))], list(numbers))
        self.many(6000, woods_of, XY, 3)
        self.many(6000, woods_of, XYZ, 3)

    def test_errors(self):
        for scope in junk_but((), X, ("yes",), ("wood",)) + [("y", "x"), ("x", "x"), ("a", "b", "c", "d"), ["x"], ("root",)]:
            self.fails(BadScope, woods_of, scope, None)
        for many in junk_but(1) + [4, 0, -1, 2.0]:
            self.fails(BadMany, woods_of, XY, many)


class LeastParting(Case):
    def test_by_hand(self):
        other = ("either", F, G)
        self.assertEqual(least_parting(one=F, other=other, most=2), ("wood", XY, ((X, 1, 1), ((), 1, 1))))
        self.assertIsNone(least_parting(F, other, 1))

    def test_one_node_and_nowhere(self):
        self.assertEqual(least_parting(("left", "x", "x"), F, 1), ("wood", XY, ((XY, 0, 0),)))
        self.assertEqual(least_parting(("root", "x"), ("not", ("root", "x")), 3), ("wood", X, (((), 0, 0),)))
        self.assertIsNone(least_parting(("both", ("sub", "x", "x"), ROOT_IN_X), ROOT_IN_X, 3))

    def test_three_nodes_alone(self):
        """x is just one place, the left child of the root: the root, this child, and what lies beside and below."""
        child = ("some", "a", ("both", ("root", "a"), ("left", "a", "x")))
        never = ("both", child, ("not", child))
        self.assertIsNone(least_parting(child, never, 1))
        self.assertIsNone(least_parting(child, never, 2))
        self.assertEqual(least_parting(child, never, 3), ("wood", X, (((), 1, 2), (X, 2, 2), ((), 2, 2))))

    def test_nowhere_up_to_three(self):
        """x is just the left child of the left child: four nodes are needed."""
        child = ("some", "a", ("both", ("root", "a"), ("some", "b", ("both", ("left", "a", "b"), ("left", "b", "x")))))
        never = ("both", child, ("not", child))
        self.assertIsNone(least_parting(child, never, 3))
        self.assertIsNotNone(parted(child, never))
        self.assertIsNotNone(follows(child, never))

    def test_by_trying_all(self):
        chance = dice(380)
        seen = {}
        for _ in range(60):
            one, other = some_plain(chance, chance.randint(1, 2), ("x", "y")), some_plain(chance, chance.randint(1, 2), ("x", "y"))
            told = least_parting(one, other, 2)
            self.assertEqual(told, first_parting(one, other, 2))
            seen[told and len(told[2])] = True
        self.assertEqual(len(seen), 3)
        for _ in range(8):
            one, other = some_plain(chance, 1, ("x",)), some_plain(chance, 2, ("x",))
            self.assertEqual(least_parting(one, other, 3), first_parting(one, other, 3))

    def test_the_first_one_by_means_of_each(self):
        chance = dice(381)
        met = 0
        for _ in range(40):
            one, other = some_formula(chance, chance.randint(2, 5), ("x", "y")), some_formula(chance, chance.randint(2, 5), ("x", "y"))
            scope = tuple(sorted(set(free_names(one) + free_names(other))))
            told = told_or_most(least_parting, one, other, 2)
            if isinstance(told, int):
                continue
            met += 1
            for wood in [wood for many in (1, 2) for wood in woods_of(scope, many)]:
                apart = means(one, wood) != means(other, wood)
                if apart:
                    self.assertEqual(told, wood)
                    break
            else:
                self.assertIsNone(told)
        self.assertGreater(met, 20)

    def test_6000_woods(self):
        """The woods of most nodes count, though the formulas part on fewer."""
        self.many(6000, least_parting, F, ("not", F), 3)
        self.assertEqual(least_parting(F, ("not", F), 2), ("wood", XY, (((), 0, 0),)))
        self.assertEqual(least_parting(("both", F, ("root", "z")), F, 2)[1], XYZ)
        self.many(6000, least_parting, TOO_MANY[1][1], G, 3)

    def test_errors(self):
        for thing in junk_but() + [nots(101), ("sub", "x", "all"), *LONG]:
            self.fails(BadFormula, least_parting, thing, None, None)
            self.fails(BadFormula, least_parting, thing, F, 1)
            self.fails(BadFormula, least_parting, F, thing, None)
        self.fails(BadScope, least_parting, F, ("sub", "a", "b"), None)
        for most in junk_but(1) + [4, 0, -1, 2.0]:
            self.fails(BadMany, least_parting, F, G, most)
        self.many(400, least_parting, TOO_MANY[0][1], G, 1)
        self.many(2000, least_parting, G, TOO_MANY[1][1], 1)
        self.many(2000, least_parting, TOO_MANY[1][1], TOO_MANY[0][1], 2)
