"""Point [59]."""

from allboughs.compiling import choices_of, machine_of
from allboughs.deciding import means
from allboughs.errors import BadFormula, BadWood, NoName
from allboughs.fillings import fillings
from allboughs.formulas import free_names, is_formula
from allboughs.grafting import exchanged, grafted, joined
from allboughs.woods import is_wood, least, within
from tests.meanings import EMPTY_SCOPE, all_woods, left_over, some_formula, some_plain, true_on, wood_for
from tests.support import Case, alike, dice, junk_but
from tests.test_compiling import TOO_MANY, TOO_MANY_CHOICES, told_or_most
from tests.test_formulas import ONES, TWOS, nots

NAMES = ("x", "y", "z")
X, Y, XY = ("x",), ("y",), ("x", "y")
PART = ("sub", "x", "y")
F = ("some", "x", PART)
ROOT = ("wood", Y, ((Y, 1, 1), ((), 1, 1)))
FULL = ("wood", Y, ((Y, 0, 0),))
SMALL = all_woods(("x",), 1) + all_woods(("x",), 2)


def top(many):
    """y at the first so many places, in a sequence by their numbers of ways, all others bare."""
    rows = []
    for at in range(many):
        rows.append((Y, *[goal if goal < many else many for goal in (2 * at + 1, 2 * at + 2)]))
    return ("wood", Y, (*rows, ((), many, many)))


def road(many, letter=Y):
    """A wood of so many nodes: left from node to node; right, and behind the last but one, bare. That one bears y."""
    last = many - 1
    rows = [(letter if at == last - 1 else (), at + 1, last) for at in range(last)]
    return ("wood", Y, (*rows, ((), last, last)))


class Judged(Case):
    def held(self, formula, wood, told, holds=means, many=5):
        """Look at what fillings tells; holds tells whether the part of the formula holds on a wood.

        Of endless ones so many are looked at.
        """
        _, name, part = formula
        scope = free_names(formula)
        base = left_over(wood, scope)

        def fits(thing):
            self.assertTrue(is_wood(thing))
            self.assertEqual(thing[1], free_names(part))
            self.assertTrue(alike(left_over(thing, scope), base))
            self.assertTrue(holds(part, thing))

        if told[0] == "all":
            self.assertEqual(len(told), 2)
            self.assertLessEqual(len(told[1]), 64)
            self.assertEqual(list(told[1]), sorted(set(told[1])))
            for thing in told[1]:
                fits(thing)
                self.assertEqual(least(thing), thing)
            for marks in SMALL:
                letters = [(tuple(name for _ in letter), *goals) for letter, *goals in marks[2]]
                thing = least(joined(base, ("wood", (name,), tuple(letters))))
                self.assertIs(thing in told[1], holds(part, thing))
            return
        word, filled, high, low = told
        self.assertEqual(word, "endless")
        self.assertEqual(least(filled), filled)
        self.assertGreater(len(low), len(high))
        self.assertEqual(low[:len(high)], high)
        woods = [grafted(filled, high, within(filled, low))]
        while len(woods) < many:
            woods.append(grafted(filled, low, within(woods[-1], high)))
        self.assertTrue(alike(woods[1], filled))
        for at, thing in enumerate(woods):
            fits(thing)
            self.assertFalse(any(alike(thing, other) for other in woods[:at]))


class ByHand(Judged):
    def test_by_hand(self):
        self.assertEqual(fillings(formula=F, wood=ROOT), ("all", (
            ("wood", XY, ((XY, 1, 1), ((), 1, 1))), ("wood", XY, ((Y, 1, 1), ((), 1, 1))))))
        told = fillings(F, FULL)
        self.assertEqual(told[0], "endless")
        self.held(F, FULL, told, true_on)
        self.held(F, FULL, ("endless", ("wood", XY, ((XY, 1, 1), (Y, 1, 1))), (), (0,)), true_on)

    def test_none(self):
        self.assertEqual(fillings(("some", "x", ("both", ("root", "x"), ("left", "x", "x"))), EMPTY_SCOPE), ("all", ()))
        self.assertEqual(fillings(("some", "x", ("left", "x", "y")), FULL), ("all", ()))
        self.assertEqual(fillings(("some", "x", ("left", "x", "y")), ("wood", Y, ((Y, 1, 1), ((), 0, 0)))), ("all", ()))

    def test_one(self):
        self.assertEqual(fillings(("some", "x", ("left", "y", "x")), FULL), ("all", (
            ("wood", XY, ((Y, 1, 0), (XY, 1, 0))),)))
        self.assertEqual(fillings(("some", "x", ("root", "x")), EMPTY_SCOPE), ("all", (("wood", X, ((X, 1, 1), ((), 1, 1))),)))
        # Of the sets that have with each place both children, and the root, there is one, though nothing else says so.
        whole = ("some", "x", ("both", ("closed", "x"), ("sub", "y", "x")))
        self.assertEqual(fillings(whole, FULL), ("all", (("wood", XY, ((XY, 0, 0),)),)))

    def test_64_and_more(self):
        told = fillings(F, top(6))
        self.assertEqual(len(told[1]), 64)
        self.held(F, top(6), told, true_on)
        self.many(64, fillings, F, top(7))
        self.many(64, fillings, F, top(100))
        three = ("some", "x", ("both", PART, ("sub", "z", "x")))
        wood = ("wood", ("y", "z"), tuple((letter + (("z",) if at in (0, 3) else ()), left, right)
                                          for at, (letter, left, right) in enumerate(top(8)[2])))
        self.assertEqual(len(fillings(three, wood)[1]), 64)

    def test_64_that_share_trees(self):
        """Three places below one another, each with a way to what has four fillings: 4 * 4 * 4 of them."""
        rows = ((), 1, 4), ((), 2, 4), ((), 5, 4), (Y, 5, 5), (Y, 3, 5), ((), 5, 5)
        told = fillings(F, ("wood", Y, rows))
        self.assertEqual(len(told[1]), 64)
        self.held(F, ("wood", Y, rows), told, true_on)
        self.many(64, fillings, F, ("wood", Y, (((), 1, 4), ((), 2, 4), ((), 4, 4), (Y, 5, 5), (Y, 3, 5), ((), 5, 5))))

    def test_400_standings(self):
        self.assertEqual(len(choices_of(PART)[2]), 1)
        told = fillings(F, road(400))
        self.assertEqual(len(told[1]), 2)
        self.assertEqual([len(wood[2]) for wood in told[1]], [400, 400])
        two = ("some", "x", ("both", ("root", "x"), PART))
        many = len(choices_of(two[2])[2])
        self.assertGreater(many, 1)
        fits = 400 // many
        self.assertEqual(fillings(two, road(fits)), ("all", ()))
        self.many(400, fillings, two, road(fits + 1))
        wide = ("wood", ("y", "z"), tuple(
            (letter + (("z",) if at % 3 else ()), left, right) for at, (letter, left, right) in enumerate(road(fits)[2])))
        self.assertEqual(fillings(two, wide), ("all", ()))
        # Not the nodes of the wood count, but those of the least one.
        full = ("wood", Y, tuple(((), at, at) for at in range(400)))
        self.assertEqual(fillings(two, full), ("all", ()))

    def test_endless_on_a_long_round(self):
        ring = ("wood", Y, tuple((Y if at == 0 else (), (at + 1) % 30, (at + 1) % 30) for at in range(30)))
        self.held(F, ring, fillings(F, ring), true_on, 4)
        ring = ("wood", Y, tuple((Y if at == 0 else (), (at + 1) % 195, (at + 1) % 195) for at in range(195)))
        word, filled, high, low = fillings(F, ring)
        self.assertEqual((word, (len(low) - len(high)) % 195), ("endless", 0))
        self.assertTrue(true_on(PART, filled))
        self.assertTrue(alike(left_over(filled, Y), ring))
        # Behind a long road the root of what is endless: the road is not the trunk.
        far = ("wood", Y, (*road(150)[2][:149], (Y, 149, 149)))
        self.held(F, far, fillings(F, far), true_on, 3)

    def long_round(self, ring, many, high):
        """Look at endless fillings on a round of so many nodes, with no room for two more such rounds."""
        word, filled, upper, low = fillings(F, ring)
        self.assertEqual((word, upper, low[:len(high)], len(low) - len(high)), ("endless", high, high, many))
        first = grafted(filled, high, within(filled, low))
        for thing in (filled, first):
            self.assertTrue(true_on(PART, thing))
            self.assertTrue(alike(left_over(thing, Y), ring))
        self.assertFalse(alike(filled, first))

    def test_a_tree_that_turns_aside_on_a_round(self):
        """It is itself again ahead of the round's end: unlike at a node, or beside the round, left or right of it."""
        ring = ("wood", Y, (*((Y if at == 2 else (), (at + 1) % 390, 390) for at in range(390)), ((), 390, 390)))
        for wood in (ring, exchanged(ring)):
            self.long_round(wood, 390, ())
        ring = ("wood", Y, (*((Y if at == 0 else (), (at + 1) % 398, 398) for at in range(398)), ((), 398, 398)))
        self.long_round(ring, 398, ())
        self.assertEqual(len(fillings(F, ring)[1][2]), 400)
        # At the nodes of the round there is no choice, but beside all of them but two there is one.
        many = 380
        rows = [((), (at + 1) % many, many + 1 if at in (0, 3) else many) for at in range(many)]
        ring = ("wood", Y, (*rows, (Y, many + 1, many + 1), ((), many + 1, many + 1)))
        for wood in (ring, exchanged(ring)):
            self.long_round(wood, many, ())
        # Beside a node stands what bears y at its child alone: the choice there is not at once, and no road leads back.
        far = (*rows, ((), many + 2, many + 1), ((), many + 1, many + 1), (Y, many + 1, many + 1))
        for wood in (("wood", Y, far), exchanged(("wood", Y, far))):
            self.long_round(wood, many, ())

    def test_the_further_names_are_left_out(self):
        wood = ("wood", ("x", "y", "z"), ((("x", "y"), 1, 1), (("x", "z"), 2, 2), (("z",), 1, 1)))
        self.assertEqual(fillings(F, wood), fillings(F, ROOT))

    def test_the_same_tree_again_and_again_is_no_other(self):
        """Where the first set that is found goes on as the trunk does, another one has to be found."""
        for part in (("sub", "y", "x"), ("sub", "x", "y"), ("not", ("root", "x")), ("either", ("left", "x", "y"), ("sub", "y", "x"))):
            for wood in (FULL, ("wood", Y, (((), 0, 0),)), ROOT, ("wood", Y, ((Y, 1, 0), ((), 0, 1)))):
                formula = ("some", "x", part)
                self.held(formula, wood, fillings(formula, wood), true_on)

    def test_finite_and_endless_rounds_of_the_wrong_kind(self):
        """A set of one place: the road to it can be as long as it likes, but never endless."""
        for short in (("one", "x"), ("finite", "x"), ("road", "x"), ("again", "x")):
            formula = ("some", "x", short)
            told = fillings(formula, EMPTY_SCOPE)
            self.assertEqual(told[0], "endless")
            self.held(formula, EMPTY_SCOPE, told, true_on)


class ByChance(Judged):
    def test_plain_parts(self):
        chance = dice(270)
        seen = {}
        for _ in range(350):
            part = some_plain(chance, chance.randint(1, 3), NAMES, 0.3)
            if "x" not in free_names(part):
                continue
            formula = ("some", "x", part)
            wood = wood_for(chance, ("y", "z"), 4)
            told = told_or_most(fillings, formula, wood)
            if told == 64:
                continue
            self.held(formula, wood, told, true_on)
            kind = told[0] if told[0] == "endless" else min(2, len(told[1]))
            seen[kind] = seen.get(kind, 0) + 1
        self.assertEqual(sorted(seen, key=str), [0, 1, 2, "endless"])
        self.assertGreater(min(seen[0], seen[1], seen["endless"]), 30)

    def test_on_finite_marks(self):
        chance = dice(271)
        met = 0
        for _ in range(120):
            part = ("both", PART, some_plain(chance, chance.randint(1, 2), ("x", "y"), 0.5))
            formula = ("some", "x", part)
            wood = top(chance.randint(1, 5))
            told = fillings(formula, wood)
            self.assertEqual(told[0], "all")
            self.held(formula, wood, told, true_on)
            met += 1 < len(told[1])
        self.assertGreater(met, 30)

    def test_all_sets_of_places_with_y(self):
        """All marks on the places with y, one by one: those with which the part holds are told, no others."""
        chance = dice(272)
        for _ in range(60):
            part = ("both", PART, some_plain(chance, chance.randint(1, 2), ("x", "y"), 0.5))
            many = chance.randint(1, 4)
            told = fillings(("some", "x", part), top(many))
            woods = set()
            for bits in range(2 ** many):
                rows = [(XY if bits >> at & 1 else letter, left, right) for at, (letter, left, right) in enumerate(top(many)[2][:many])]
                wood = ("wood", XY, (*rows, top(many)[2][many]))
                if true_on(part, wood):
                    woods.add(least(wood))
            self.assertEqual(told, ("all", tuple(sorted(woods))))

    def test_parts_with_binders(self):
        chance = dice(273)
        met = 0
        for _ in range(80):
            part = some_formula(chance, chance.randint(3, 6), ("x", "y"))
            if is_formula(part) and "x" in free_names(part):
                formula = ("some", "x", part)
                wood = wood_for(chance, ("y",), 2)
                told = told_or_most(fillings, formula, wood)
                if not isinstance(told, int) and not isinstance(told_or_most(machine_of, part), int):
                    met += 1
                    self.held(formula, wood, told)
        self.assertGreater(met, 15)

    def test_shorts(self):
        for short in [(word, "x") for word in ONES] + [(word, "x", "y") for word in TWOS] + [(word, "y", "x") for word in TWOS]:
            for part in (short, ("not", short), ("both", PART, short)):
                for wood in (ROOT, FULL, ("wood", Y, ((Y, 1, 0), ((), 1, 1)))):
                    formula = ("some", "x", part)
                    self.held(formula, wood, fillings(formula, wood), true_on)


class Errors(Case):
    def test_errors(self):
        things = junk_but() + [
            PART, ("all", "x", PART), ("some", "z", PART), ("not", F), ("some", "x", ("some", "x", PART)), ("road", "x"), nots(101),
            ("both", F, F), ("some", "all", PART)]
        for thing in things:
            self.fails(BadFormula, fillings, thing, None)
        for thing in junk_but():
            self.fails(BadWood, fillings, F, thing)
        self.assertEqual(self.fails(NoName, fillings, F, EMPTY_SCOPE).name, "y")
        self.assertEqual(self.fails(NoName, fillings, ("some", "x", ("both", PART, ("root", "a"))), EMPTY_SCOPE).name, "a")
        self.many(2000, fillings, ("some", "z", TOO_MANY_CHOICES), ("wood", XY, (((), 0, 0),)))
        self.many(2000, fillings, ("some", "z", TOO_MANY[1][1]), ("wood", XY, (((), 0, 0),)))
        self.assertEqual(self.fails(NoName, fillings, ("some", "z", TOO_MANY_CHOICES), EMPTY_SCOPE).name, "y")
