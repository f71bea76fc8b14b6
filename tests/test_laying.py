"""Point [23] as far as it speaks of layings, and the example of part 4."""

from allboughs.errors import BadMachine, BadPlan, BadWood, OtherScope
from allboughs.games import plans
from allboughs.laying import is_laid, laid
from allboughs.playing import game_of, lets_by, standings, verdict
from tests.judging import has_round, wrong_parts
from tests.support import Case, bits, dice, held, junk_but, some_machine, some_wood_of
from tests.test_playing import M, NO, W, X, YES, drawn_pairs, ladder, ring, spot_of


def good_laying(machine, wood, thing):
    """Whether a tuple with a pair of ascending tuples of pairs for each node is a laying, by the words of [23]."""
    ways, todo = {}, [(0, 0)]
    while todo:
        node, q = todo.pop()
        if (node, q) in ways:
            continue
        letter, *goals = wood[2][node]
        lot = {(way, r) for way in (0, 1) for state, r in thing[node][way] if state == q}
        if not held(machine[2][q][1][bits(machine[1]).index(letter)], lambda way, r: (way, r) in lot):
            return False
        ways[(node, q)] = [(goals[way], r) for way, r in lot]
        todo.extend(ways[(node, q)])
    return not has_round(lambda spot: machine[2][spot[1]][0], ways, 1)


def laid_by_the_words(machine, wood, plan):
    """The laying of a plan: what it comes to from states through parts alone, told go by go."""
    known = standings(machine, wood)
    picks = {known[row]: goal for row, goal in plan[2]}
    told = [(set(), set()) for _ in wood[2]]
    met, todo = set(), [("state", 0, 0)]

    def follow(standing, path, node, q):
        spot = spot_of(machine, wood, node, q, path)
        if picks[standing] is not None and known[picks[standing]] != spot:
            return
        if spot[0] == "part":
            for turn in (1, 2):
                follow(spot, path + (turn,), node, q)
        elif spot[0] == "state":
            condition = machine[2][q][1][bits(machine[1]).index(wood[2][node][0])]
            for turn in path:
                condition = condition[turn]
            told[node][condition[1]].add((q, spot[2]))
            todo.append(spot)

    while todo:
        standing = todo.pop()
        if standing not in met:
            met.add(standing)
            follow(standing, (), standing[1], standing[2])
    return tuple((tuple(sorted(left)), tuple(sorted(right))) for left, right in told)


class ByHand(Case):
    def test_by_hand(self):
        told = ((((0, 1),), ()), (((1, 0),), ()))
        self.assertEqual(laid(machine=M, wood=W, plan=("plan", 0, ((0, 1), (1, 0)))), told)
        self.assertIs(is_laid(machine=M, wood=W, thing=told), True)

    def test_a_part_changed(self):
        for wrong in (
            (((), ()), (((1, 0),), ())), ((((0, 1),), ()), ((), ((1, 0),))), ((((0, 0),), ()), (((1, 0),), ())), ((((1, 1),), ()), (((1, 0),), ())),
            ((((0, 1),), ()),), ((((0, 1),), ()), (((1, 0),), ()), ((), ())), ((((0, 2),), ()), (((1, 0),), ())), ((((0, 1),), ()), (((1, 0),),)),
            ((((0, 1),), ()), (((1, 0),), (), ())), ((((0, 1), (0, 1)), ()), (((1, 0),), ())), ((((1, 0), (0, 1)), ()), (((1, 0),), ())),
            [(((0, 1),), ()), (((1, 0),), ())], ([((0, 1),), ()], (((1, 0),), ())), (([(0, 1)], ()), (((1, 0),), ())), ((([0, 1],), ()), (((1, 0),), ())),
            ((((0, True),), ()), (((1, 0),), ())), ((((0, 1),), ()), None),
        ):
            self.assertIs(is_laid(M, W, wrong), False, wrong)
        # What is not come to may be led anywhere.
        self.assertIs(is_laid(M, W, ((((0, 1), (1, 1)), ()), (((0, 0), (1, 0)), ((0, 1),)))), True)
        # More than is needed is as good, if the rounds are: a way right from the node 0 leads to the node 0 for ever.
        self.assertIs(is_laid(M, W, ((((0, 1),), ((0, 0),)), (((1, 0),), ()))), False)
        self.assertIs(is_laid(M, W, ((((0, 1),), ((0, 1),)), (((1, 0),), ()))), False)

    def test_two_goes_to_one_standing(self):
        """Where both ways lead to one node, a pick among both goes is the pick of both."""
        machine = ("machine", (), ((0, (("either", ("go", 0, 0), ("go", 1, 0)),)),))
        one = ("wood", (), (((), 0, 0),))
        word, plan = verdict(machine, one)
        self.assertEqual(word, "yes")
        self.assertEqual(laid(machine, one, plan), ((((0, 0),), ((0, 0),)),))
        for fine, thing in ((True, ((((0, 0),), ()),)), (True, (((), ((0, 0),)),)), (False, (((), ()),))):
            self.assertIs(is_laid(machine, one, thing), fine)

    def test_yes(self):
        machine = ("machine", (), ((1, (YES,)),))
        one = ("wood", (), (((), 0, 0),))
        self.assertEqual(laid(machine, one, verdict(machine, one)[1]), (((), ()),))
        self.assertTrue(is_laid(machine, one, (((), ()),)))
        self.assertFalse(is_laid(("machine", (), ((0, (NO,)),)), one, (((), ()),)))


class ByChance(Case):
    def test_laid(self):
        met = 0
        for machine, wood, _ in drawn_pairs(370, 500):
            game = game_of(machine, wood)
            word, plan = verdict(machine, wood)
            if word == "no":
                self.fails(BadPlan, laid, machine, wood, plan)
                self.fails(BadPlan, laid, machine, wood, plans(game)[0])
                continue
            met += 1
            told = laid(machine, wood, plan)
            self.assertEqual(told, laid_by_the_words(machine, wood, plan))
            self.assertTrue(good_laying(machine, wood, told))
            self.assertIs(is_laid(machine, wood, told), True)
        self.assertGreater(met, 150)

    def test_is_laid_by_the_words(self):
        seen = [0, 0]
        for machine, wood, chance in drawn_pairs(371, 800, 4, ((), X), 3):
            states = range(len(machine[2]))
            share = chance.choice((0.2, 0.5, 0.8))
            thing = tuple(
                tuple(tuple((q, r) for q in states for r in states if chance.random() < share) for _ in (0, 1)) for _ in wood[2])
            if chance.random() < 0.5 and lets_by(machine, wood):
                told = laid(machine, wood, verdict(machine, wood)[1])
                at = chance.randrange(len(told))
                thing = (*told[:at], thing[at], *told[at + 1:])
            fine = good_laying(machine, wood, thing)
            seen[fine] += 1
            self.assertIs(is_laid(machine, wood, thing), fine)
            self.assertFalse(fine and not lets_by(machine, wood))
        self.assertGreater(min(seen), 100)


class Errors(Case):
    def test_errors(self):
        for function in (is_laid, laid):
            for thing in junk_but():
                self.fails(BadMachine, function, thing, None, None)
                self.fails(BadWood, function, M, thing, None)
            self.fails(OtherScope, function, M, ("wood", (), (((), 0, 0),)), None)
            self.many(20000, function, ladder(26, YES), ring(400), None)
        self.none_of(lambda thing: is_laid(M, W, thing), junk_but())
        self.none_of(lambda thing: is_laid(M, W, thing), wrong_parts(((((0, 1),), ()), (((1, 0),), ()))))

    def test_bad_plan(self):
        for thing in junk_but() + [
            ("plan", 1, ()), ("plan", 0, ()), ("plan", 0, ((0, 0),)), ("plan", 0, ((1, 0),)), ("plan", 1, ((0, None), (1, None))),
            ("plan", 0, ((0, 1),)), ("plan", 0, ((1, 0), (0, 1))), ["plan", 0, ((0, 1), (1, 0))], ("yes", ("plan", 0, ((0, 1), (1, 0)))),
        ]:
            self.fails(BadPlan, laid, M, W, thing)

    def test_a_plan_without_row_0(self):
        machine = ("machine", X, ((1, (("go", 0, 1), ("go", 0, 1))), (0, (("go", 0, 1), NO))))
        wood = some_wood_of(dice(372), X, 1)
        game = game_of(machine, ("wood", X, ((X, 1, 1), ((), 1, 1))))
        self.assertEqual(len(wood[2]), 1)
        keeper = plans(game)[0]
        self.assertEqual(keeper[2][0][0], 0)
        self.fails(BadPlan, laid, machine, ("wood", X, ((X, 1, 1), ((), 1, 1))), ("plan", 0, keeper[2][1:]))
        self.assertTrue(laid(machine, ("wood", X, ((X, 1, 1), ((), 1, 1))), keeper))

    def test_machines_made_by_chance_have_layings_exactly_if_they_let_by(self):
        chance = dice(373)
        for _ in range(60):
            machine = some_machine(chance, X, 2, 3, 2)
            wood = some_wood_of(chance, X, 1)
            pairs = [(q, r) for q in (0, 1) for r in (0, 1)]
            lots = [tuple(pair for at, pair in enumerate(pairs) if bits_of >> at & 1) for bits_of in range(16)]
            found = any(is_laid(machine, wood, ((left, right),)) for left in lots for right in lots)
            self.assertIs(found, lets_by(machine, wood))
