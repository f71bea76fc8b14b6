"""Point [9]."""

from allboughs.errors import BadNames, BadPlace, BadScope, BadWood, OtherScope, SharedName
from allboughs.grafting import bare, exchanged, grafted, joined, without
from allboughs.woods import is_wood, least, parting, within
from tests.meanings import left_over
from tests.support import Case, alike, dice, junk_but, letters_to, some_wood_of

X, Y, XY = ("x",), ("y",), ("x", "y")
W = ("wood", X, ((X, 0, 1), ((), 1, 1)))
NOT_NAMES = junk_but((), ("x",), ("yes",), ("wood",)) + [("x", "x"), ("y", "x"), ("root",), ["x"], ("X",), (("x",),), ("abcdefghi",)]


def ring(many, scope=(), letter=()):
    """A wood of so many nodes, one behind the other."""
    return ("wood", scope, tuple((letter if at == 0 else (), (at + 1) % many, (at + 1) % many) for at in range(many)))


class Without(Case):
    def test_nodes_stay(self):
        wood = ("wood", ("a", "b", "c"), ((("a", "c"), 2, 0), (("b",), 1, 1), (("a", "b", "c"), 0, 0)))
        self.assertEqual(without(wood, ("a",)), ("wood", ("b", "c"), ((("c",), 2, 0), (("b",), 1, 1), (("b", "c"), 0, 0))))
        self.assertEqual(without(wood=wood, names=("a", "c")), ("wood", ("b",), (((), 2, 0), (("b",), 1, 1), (("b",), 0, 0))))
        self.assertEqual(without(wood, ()), wood)
        self.assertEqual(without(wood, ("a", "b", "c")), ("wood", (), (((), 2, 0), ((), 1, 1), ((), 0, 0))))

    def test_errors(self):
        for thing in junk_but():
            self.fails(BadWood, without, thing, None)
        wood = ("wood", ("a", "b"), (((), 0, 0),))
        for names in NOT_NAMES + [("c",), ("a", "c"), ("b", "a"), ("a", "a"), "a", ["a"]]:
            self.fails(BadNames, without, wood, names)


class Bare(Case):
    def test_wider(self):
        wood = ("wood", ("b",), ((("b",), 1, 1), ((), 0, 0)))
        self.assertEqual(bare(wood=wood, names=("a", "c")), ("wood", ("a", "b", "c"), ((("b",), 1, 1), ((), 0, 0))))
        self.assertEqual(bare(wood, ()), wood)
        self.assertEqual(bare(("wood", (), (((), 0, 0),)), ("a", "b", "c"))[1], ("a", "b", "c"))

    def test_errors(self):
        for thing in junk_but():
            self.fails(BadWood, bare, thing, None)
        wood = ("wood", ("b",), (((), 0, 0),))
        for names in NOT_NAMES + [("b",), ("a", "b"), ("c", "a"), ("a", "a"), ("a", "c", "d"), "a", ["a"]]:
            self.fails(BadNames, bare, wood, names)
        self.fails(BadNames, bare, ("wood", ("a", "b", "c"), (((), 0, 0),)), ("d",))

    def test_there_and_back(self):
        chance = dice(200)
        for _ in range(100):
            wood = some_wood_of(chance, ("b",), 3)
            self.assertEqual(without(bare(wood, ("a", "c")), ("a", "c")), wood)


class Joined(Case):
    def test_pairs(self):
        one = ("wood", ("b",), ((("b",), 1, 0), ((), 1, 1)))
        other = ("wood", ("a",), (((), 0, 1), (("a",), 0, 1)))
        self.assertEqual(joined(one=one, other=other), ("wood", ("a", "b"), (
            (("b",), 1, 2), ((), 1, 3), (("a", "b"), 1, 2), (("a",), 1, 3))))

    def test_errors(self):
        wood = ("wood", ("a", "b"), (((), 0, 0),))
        for thing in junk_but():
            self.fails(BadWood, joined, thing, wood)
            self.fails(BadWood, joined, wood, thing)
        self.fails(BadWood, joined, wood, None)
        told = self.fails(SharedName, joined, ("wood", ("b", "c", "d"), (((), 0, 0),)), ("wood", ("a", "c", "d"), (((), 0, 0),)))
        self.assertEqual(told.name, "c")
        self.assertEqual(self.fails(SharedName, joined, wood, wood).name, "a")
        self.fails(BadScope, joined, wood, ("wood", ("c", "d"), (((), 0, 0),)))
        self.assertTrue(is_wood(joined(wood, ("wood", ("c",), (((), 0, 0),)))))

    def test_400_nodes(self):
        told = joined(ring(16, X, X), ring(25, Y, Y))
        self.assertEqual(len(told[2]), 400)
        self.assertTrue(is_wood(told))
        self.many(400, joined, ring(3, X), ring(134, Y))
        self.many(400, joined, ring(399, X), ring(400, Y))
        self.assertEqual(len(joined(ring(400, X), ring(200, Y))[2]), 400)
        self.fails(BadScope, joined, ring(399, ("a", "b")), ring(400, ("c", "d")))

    def test_each_place_bears_both(self):
        chance = dice(201)
        for _ in range(150):
            one = some_wood_of(chance, ("b",), chance.randint(1, 4))
            other = some_wood_of(chance, ("a", "c"), chance.randint(1, 4))
            told = joined(one, other)
            self.assertTrue(is_wood(told))
            self.assertEqual(within(told, ()), told)
            mine, theirs = letters_to(one, 5), letters_to(other, 5)
            self.assertEqual(letters_to(told, 5), {place: tuple(sorted(mine[place] + theirs[place])) for place in mine})
            self.assertEqual(least(without(told, other[1])), least(one))
            self.assertEqual(least(without(told, one[1])), least(other))


class Grafted(Case):
    def test_by_hand(self):
        told = grafted(W, (1,), W)
        self.assertEqual(told, ("wood", X, ((X, 1, 2), (X, 1, 3), (X, 2, 4), ((), 3, 3), ((), 4, 4))))
        self.assertEqual(least(told), ("wood", X, ((X, 1, 1), (X, 1, 2), ((), 2, 2))))
        self.assertEqual(parting(W, told), (1,))

    def test_at_the_root(self):
        other = ("wood", X, ((X, 2, 2), ((), 0, 0), ((), 2, 0)))
        self.assertEqual(grafted(wood=W, place=(), other=other), ("wood", X, ((X, 1, 1), ((), 1, 0))))

    def test_nodes_of_both_stay_apart(self):
        one = ("wood", (), (((), 0, 0),))
        self.assertEqual(grafted(one, (0,), one), ("wood", (), (((), 1, 2), ((), 1, 1), ((), 2, 2))))
        self.assertEqual(grafted(one, (0, 1), one), ("wood", (), (((), 1, 2), ((), 2, 3), ((), 2, 2), ((), 3, 3))))
        self.assertEqual(grafted(one, (1, 1), one), ("wood", (), (((), 1, 2), ((), 1, 1), ((), 1, 3), ((), 3, 3))))

    def test_200_ways(self):
        place = (0, 1) * 100
        told = grafted(W, place, ("wood", X, (((), 0, 0),)))
        self.assertTrue(is_wood(told))
        self.assertEqual(len(told[2]), 200 + 1 + 2)
        self.assertEqual(within(told, place)[2], (((), 0, 0),))
        self.assertEqual(parting(W, grafted(W, (0,) * 200, ("wood", X, (((), 0, 0),)))), (0,) * 200)

    def test_400_nodes(self):
        told = grafted(ring(199), (0,), ring(200))
        self.assertEqual(len(told[2]), 400)
        self.assertEqual(len(grafted(ring(200), (0,), ring(199))[2]), 400)
        self.many(400, grafted, ring(200), (1,), ring(200))
        self.many(400, grafted, ring(400), (0,), ring(400))
        self.assertEqual(len(grafted(ring(400), (), ring(400))[2]), 400)
        # Nodes that nothing leads to any more do not count.
        far = ("wood", (), (((), 1, 399), *[((), at + 1, at + 1) for at in range(1, 399)], ((), 399, 399)))
        self.assertEqual(len(grafted(far, (0,), ring(398))[2]), 400)
        self.many(400, grafted, far, (0,), ring(399))

    def test_errors(self):
        for thing in junk_but():
            self.fails(BadWood, grafted, thing, None, None)
            self.fails(BadWood, grafted, W, (), thing)
        for place in junk_but((), (0,), (0, 0)) + [(2,), (0, True), [0], "0", (0, 0, -1), (1.0,)]:
            self.fails(BadPlace, grafted, W, place, None)
        self.fails(OtherScope, grafted, W, (0,), ("wood", (), (((), 0, 0),)))
        self.fails(OtherScope, grafted, ring(400, X), (0,), ring(400))

    def test_facts(self):
        chance = dice(202)
        for _ in range(200):
            one = some_wood_of(chance, X, chance.randint(1, 4))
            other = some_wood_of(chance, X, chance.randint(1, 4))
            place = tuple(chance.randrange(2) for _ in range(chance.randint(0, 4)))
            told = grafted(one, place, other)
            self.assertTrue(is_wood(told))
            self.assertEqual(within(told, ()), told)
            self.assertTrue(alike(within(told, place), other))
            away = parting(one, told)
            self.assertTrue(away is None or away[:len(place)] == place)
            mine, new, theirs = letters_to(one, 5), letters_to(told, 5), letters_to(other, 5)
            for at in mine:
                under = at[:len(place)] == place
                self.assertEqual(new[at], theirs[at[len(place):]] if under else mine[at])


class Exchanged(Case):
    def test_each_node(self):
        self.assertEqual(exchanged(wood=W), ("wood", X, ((X, 1, 0), ((), 1, 1))))
        wood = ("wood", XY, ((XY, 2, 0), (Y, 1, 0), (X, 0, 1)))
        self.assertEqual(exchanged(wood), ("wood", XY, ((XY, 0, 2), (Y, 0, 1), (X, 1, 0))))

    def test_places(self):
        chance = dice(203)
        for _ in range(100):
            wood = some_wood_of(chance, X, 4)
            mine, turned = letters_to(wood, 4), letters_to(exchanged(wood), 4)
            self.assertEqual(turned, {tuple(1 - way for way in place): mine[place] for place in mine})
            self.assertEqual(exchanged(exchanged(wood)), wood)

    def test_errors(self):
        for thing in junk_but():
            self.fails(BadWood, exchanged, thing)


class Judges(Case):
    def test_left_over(self):
        self.assertEqual(left_over(("wood", XY, ((XY, 0, 0),)), X), ("wood", X, ((X, 0, 0),)))
