"""Points [2], [4], [5], [6], [7] and [8]."""

from allboughs.errors import BadPlace, BadScope, BadWood, OtherScope
from allboughs.woods import is_tie, is_wood, least, letters, node_at, parting, tie, within
from tests.support import JUNK, Alike, Case, alike, bits, dice, junk_but, letters_to, some_wood_of

X = ("x",)
ROAD = ("wood", X, ((X, 0, 1), ((), 1, 1)))
GRAFT = ("wood", X, ((X, 1, 2), (X, 1, 3), (X, 2, 4), ((), 3, 3), ((), 4, 4)))
BARE = ("wood", (), (((), 0, 0),))
BAD_SCOPES = (
    ("a", "b", "c", "d"), ("b", "a"), ("a", "a"), ["a"], ("A",), ("all",), ("",), ("abcdefghi",), (1,), "a", "ab", None,
    (True,), (("a",),), {"a": 1}, ("a", None),
)


class Letters(Case):
    def test_order(self):
        self.assertEqual(letters(()), ((),))
        self.assertEqual(letters(scope=("x",)), ((), ("x",)))
        self.assertEqual(letters(("x", "y")), ((), ("x",), ("y",), ("x", "y")))
        three = ((), ("a",), ("b",), ("a", "b"), ("c",), ("a", "c"), ("b", "c"), ("a", "b", "c"))
        self.assertEqual(letters(("a", "b", "c")), three)

    def test_bad_scopes(self):
        for scope in BAD_SCOPES:
            self.fails(BadScope, letters, scope)
        for scope in junk_but((), ("x",), ("yes",), ("wood",)):
            self.fails(BadScope, letters, scope)


class IsWood(Case):
    def test_woods(self):
        for wood in (ROAD, GRAFT, BARE):
            self.assertIs(is_wood(wood), True)
        self.assertIs(is_wood(thing=BARE), True)
        self.assertTrue(is_wood(("wood", ("abcdefgh", "b", "c"), ((("abcdefgh", "c"), 0, 0),))))

    def test_number_of_nodes(self):
        node = ((), 0, 0)
        self.assertTrue(is_wood(("wood", (), (node,) * 400)))
        self.assertFalse(is_wood(("wood", (), (node,) * 401)))
        self.assertFalse(is_wood(("wood", (), ())))
        self.assertTrue(is_wood(("wood", (), (((), 399, 399),) * 400)))
        self.assertFalse(is_wood(("wood", (), (((), 399, 399),) * 399)))

    def test_bad_scopes(self):
        self.none_of(is_wood, [("wood", scope, (((), 0, 0),)) for scope in BAD_SCOPES])

    def test_bad_nodes(self):
        nodes = (
            ((), 0), ((), 0, 0, 0), ((), 0, 1), ((), -1, 0), ((), True, 0), ((), 0, False), ((), 0, 0.0), [(), 0, 0],
            ([], 0, 0), (["x"], 0, 0), (("y",), 0, 0), (("x", "x"), 0, 0), ("x", 0, 0), (("x", "y"), 0, 0), (None, 0, 0),
            ((), "0", 0), ((), None, 0), (), None, ((), (), ()), ((Alike(),), 0, 0), (Alike(), 0, 0), ((), Alike(), 0),
        )
        self.none_of(is_wood, [("wood", X, (node,)) for node in nodes])
        self.none_of(is_wood, [("wood", ("x", "y"), ((("y", "x"), 0, 0),)), ("woods", (), (((), 0, 0),))])
        self.none_of(is_wood, [(Alike(), (), (((), 0, 0),)), ("wood", Alike(), (((), 0, 0),)), ("wood", (), Alike())])
        self.none_of(is_wood, [["wood", (), (((), 0, 0),)], ("wood", (), [((), 0, 0)]), ("wood", (), (((), 0, 0),), 1)])

    def test_any_value(self):
        self.none_of(is_wood, JUNK)


class NodeAt(Case):
    def test_by_hand(self):
        self.assertEqual(node_at(ROAD, (0, 0, 1)), 1)
        self.assertEqual(node_at(wood=ROAD, place=()), 0)
        self.assertEqual(node_at(GRAFT, (1, 0)), 2)
        self.assertEqual(node_at(GRAFT, (1, 0, 1, 1)), 4)

    def test_places_of_200_ways(self):
        self.assertEqual(node_at(ROAD, (0,) * 200), 0)
        self.assertEqual(node_at(ROAD, (0,) * 199 + (1,)), 1)
        self.assertEqual(within(ROAD, (0,) * 200), ROAD)

    def test_errors_in_order(self):
        for function in (node_at, within):
            for thing in JUNK:
                self.fails(BadWood, function, thing, ())
                self.fails(BadWood, function, thing, None)
            for thing in junk_but((), (0,), (0, 0)):
                self.fails(BadPlace, function, ROAD, thing)
            for place in ([0], (2,), (-1,), (True,), (0, False), (0.0,), ("0",), (None,), 0, ((0,),)):
                self.fails(BadPlace, function, ROAD, place)


class Within(Case):
    def test_by_hand(self):
        self.assertEqual(within(ROAD, (0,)), ROAD)
        self.assertEqual(within(wood=ROAD, place=(1,)), ("wood", X, (((), 0, 0),)))
        self.assertEqual(within(GRAFT, (1,)), ("wood", X, ((X, 0, 1), ((), 1, 1))))

    def test_numbered_as_a_walk_meets_them(self):
        wood = ("wood", X, (((), 3, 2), (X, 1, 0), (X, 3, 1), ((), 0, 4), ((), 4, 4)))
        self.assertEqual(within(wood, ()), ("wood", X, (((), 1, 2), ((), 0, 3), (X, 1, 4), ((), 3, 3), (X, 4, 0))))

    def test_leaves_what_is_not_come_to(self):
        wood = ("wood", (), (((), 2, 2), ((), 0, 0), ((), 2, 2)))
        self.assertEqual(within(wood, ()), ("wood", (), (((), 1, 1), ((), 1, 1))))

    def test_it_is_the_tree_at_the_place(self):
        chance = dice(1)
        for _ in range(60):
            wood = some_wood_of(chance, ("a", "b"), chance.randint(1, 6))
            place = tuple(chance.randrange(2) for _ in range(chance.randint(0, 4)))
            inner = within(wood, place)
            self.assertTrue(is_wood(inner))
            whole = letters_to(wood, len(place) + 4)
            for below, letter in letters_to(inner, 4).items():
                self.assertEqual(whole[place + below], letter)
            self.assertEqual(within(inner, ()), inner)


class Ties(Case):
    def test_tie_by_hand(self):
        self.assertEqual(tie(ROAD, ROAD), ((0, 0), (1, 1)))
        self.assertIsNone(tie(ROAD, GRAFT))
        small = least(GRAFT)
        self.assertEqual(tie(one=GRAFT, other=small), ((0, 0), (1, 1), (2, 1), (3, 2), (4, 2)))
        self.assertEqual(tie(small, GRAFT), ((0, 0), (1, 1), (1, 2), (2, 3), (2, 4)))

    def test_tie_is_the_least_one(self):
        chance = dice(2)
        met = 0
        for _ in range(200):
            one = some_wood_of(chance, X, chance.randint(1, 3))
            other = some_wood_of(chance, X, chance.randint(1, 3))
            told = tie(one, other)
            self.assertEqual(told is not None, alike(one, other))
            if told is not None:
                met += 1
                self.assertTrue(is_tie(one, other, told))
                for pair in told:
                    fewer = tuple(kept for kept in told if kept != pair)
                    self.assertFalse(is_tie(one, other, fewer))
        self.assertGreater(met, 10)

    def test_is_tie(self):
        wood = ("wood", X, (((), 0, 0), ((), 1, 1), (X, 2, 2)))
        self.assertIs(is_tie(wood, wood, ((0, 0),)), True)
        self.assertIs(is_tie(one=wood, other=wood, thing=((0, 0), (2, 2))), True)
        self.assertIs(is_tie(wood, wood, ((0, 0), (0, 1), (1, 0), (2, 2))), True)
        things = (
            (), ((1, 1),), ((0, 0), (0, 2)), ((0, 0), (2, 0)), ((2, 2), (0, 0)), ((0, 0), (0, 0)), [(0, 0)], ([0, 0],),
            ((0, 0, 0),), ((0,),), ((False, 0),), ((0, 0.0),), ((0, 0), (3, 3)), ((-1, 0), (0, 0)), ((0, 0), None), 0, None,
        )
        self.none_of(lambda thing: is_tie(wood, wood, thing), things)
        self.none_of(lambda thing: is_tie(wood, wood, thing), junk_but(((0, 0),)))
        self.none_of(lambda thing: is_tie(ROAD, ROAD, thing), [((0, 0),), ((0, 0), (0, 1), (1, 1)), ((1, 1),)])

    def test_errors_in_order(self):
        for function, more in ((tie, ()), (parting, ()), (is_tie, (None,))):
            for thing in JUNK:
                self.fails(BadWood, function, thing, None, *more)
                self.fails(BadWood, function, thing, BARE, *more)
                self.fails(BadWood, function, BARE, thing, *more)
            self.fails(OtherScope, function, BARE, ROAD, *more)
            self.fails(OtherScope, function, ROAD, ("wood", ("y",), (((), 0, 0),)), *more)


class Parting(Case):
    def test_by_hand(self):
        self.assertEqual(parting(ROAD, GRAFT), (1,))
        self.assertIsNone(parting(one=GRAFT, other=least(GRAFT)))
        self.assertEqual(parting(ROAD, ("wood", X, (((), 0, 0),))), ())

    def test_shortest_first_then_least(self):
        one = ("wood", X, (((), 1, 2), ((), 3, 4), ((), 4, 3), ((), 3, 3), (X, 4, 4)))
        other = ("wood", X, (((), 1, 2), ((), 4, 4), ((), 3, 4), ((), 3, 3), (X, 4, 4)))
        self.assertEqual(parting(one, other), (0, 0))
        self.assertEqual(parting(one, ("wood", X, (((), 1, 2), ((), 3, 4), ((), 3, 4), ((), 3, 3), (X, 4, 4)))), (1, 0))

    def test_it_is_the_first_place(self):
        chance = dice(3)
        for _ in range(150):
            one = some_wood_of(chance, X, chance.randint(1, 4))
            other = some_wood_of(chance, X, chance.randint(1, 4))
            mine, theirs = letters_to(one, 8), letters_to(other, 8)
            unlike = [place for place in mine if mine[place] != theirs[place]]
            first = min(unlike, key=lambda place: (len(place), place), default=None)
            self.assertEqual(parting(one, other), first)

    def test_far_places(self):
        rows = tuple((X if at == 399 else (), min(at + 1, 399), min(at + 1, 399)) for at in range(400))
        self.assertEqual(parting(("wood", X, rows), ("wood", X, (((), 0, 0),))), (0,) * 399)


class Least(Case):
    def test_by_hand(self):
        self.assertEqual(least(GRAFT), ("wood", X, ((X, 1, 1), (X, 1, 2), ((), 2, 2))))
        self.assertEqual(least(wood=ROAD), ROAD)
        self.assertEqual(least(("wood", X, ((X, 1, 2), (X, 2, 0), (X, 0, 0)))), ("wood", X, ((X, 0, 0),)))

    def test_same_exactly_for_alike_ones(self):
        chance = dice(4)
        woods = [some_wood_of(chance, X, chance.randint(1, 4)) for _ in range(60)]
        for one in woods:
            self.assertTrue(alike(one, least(one)))
            self.assertEqual(least(least(one)), least(one))
            for other in woods:
                self.assertEqual(least(one) == least(other), alike(one, other))

    def test_fewest_nodes(self):
        chance = dice(5)
        for _ in range(50):
            wood = some_wood_of(chance, ("a", "b"), chance.randint(1, 7))
            trees = {tuple(letters_to(within(wood, place), 7).items()) for place in letters_to(wood, 7)}
            self.assertEqual(len(least(wood)[2]), len(trees))
            self.assertEqual(within(least(wood), ()), least(wood))

    def test_least_of_a_tree_within(self):
        chance = dice(6)
        for _ in range(60):
            wood = some_wood_of(chance, X, chance.randint(1, 6))
            place = tuple(chance.randrange(2) for _ in range(3))
            self.assertEqual(least(within(wood, place)), within(least(wood), place))

    def test_400_nodes(self):
        rows = tuple((X if at == 399 else (), min(at + 1, 399), min(at + 1, 399)) for at in range(400))
        self.assertEqual(least(("wood", X, rows)), ("wood", X, rows))
        self.assertEqual(least(("wood", X, tuple((X, at // 2, 399 - at) for at in range(400)))), ("wood", X, ((X, 0, 0),)))

    def test_errors(self):
        for thing in JUNK:
            self.fails(BadWood, least, thing)

    def test_letters_of_three_names(self):
        known = bits(("a", "b", "c"))
        wood = ("wood", ("a", "b", "c"), tuple((letter, (at + 1) % 8, at) for at, letter in enumerate(known)))
        self.assertEqual(least(wood), within(wood, ()))
