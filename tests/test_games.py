"""Points [10] and [12], and what the example of part 3 says of them."""

from allboughs.errors import BadGame, BadRow, BadSketch
from allboughs.games import flaw, is_game, is_plan, plans, swapped, winner
from tests.judging import wrong_parts
from tests.plans import good_plan, is_round, some_game, ways_of, won_by
from tests.support import Alike, Case, dice, junk_but

G = ("game", ((0, 1, (0, 1)), (1, 2, (0, 2)), (0, 3, (1,))))


def ring(many, rank=0, side=0):
    """A game of so many rows, one behind the other."""
    return ("game", tuple((side, rank, ((at + 1) % many,)) for at in range(many)))


class IsGame(Case):
    def test_games(self):
        for game in (G, ("game", ((0, 0, (0,)),)), ("game", ((1, 301, (1, 0)), (0, 5, (0,))))):
            self.assertIs(is_game(thing=game), True)

    def test_no_games(self):
        row = (0, 1, (0,))
        self.assertIs(is_game(("game", (row, (0, 1, (2,))))), False)
        for wrong in (
            (2, 1, (0,)), (-1, 1, (0,)), (True, 1, (0,)), (0, -1, (0,)), (0, 302, (0,)), (0, True, (0,)), (0, 1, ()), (0, 1, (1,)),
            (0, 1, (0, 0)), (0, 1, [0]), (0, 1, (False,)), (0, 1), (0, 1, (0,), 0), [0, 1, (0,)], None, (0, 1, 0), (0, 1.0, (0,)),
            (Alike(), 1, (0,)), (0, Alike(), (0,)), (0, 1, Alike()), (0, 1, (Alike(),)), (0, 1, (-1,)),
        ):
            self.assertIs(is_game(("game", (wrong,))), False)
        for wrong in (("game", ()), ("game", [row]), ("game", row), ("Game", (row,)), ["game", (row,)], ("game", (row,), 0), ("game",)):
            self.assertIs(is_game(wrong), False)
        self.none_of(is_game, junk_but())
        self.none_of(is_game, wrong_parts(("game", ((0, 7, (0,)), (1, 7, (0, 1))))))

    def test_limits(self):
        self.assertTrue(is_game(ring(20000)))
        self.assertFalse(is_game(ring(20001)))
        rows = tuple((0, 0, (0,)) for _ in range(4001))
        self.assertTrue(is_game(("game", ((0, 0, tuple(range(4000))), *rows[1:]))))
        self.assertFalse(is_game(("game", ((0, 0, tuple(range(4001))), *rows[1:]))))
        self.assertTrue(is_game(("game", ((0, 0, (0,)), *rows))))
        for rank, fine in ((301, True), (302, False)):
            self.assertIs(is_game(ring(2, rank)), fine)


class Swapped(Case):
    def test_by_hand(self):
        self.assertEqual(swapped(game=G), ("game", ((1, 2, (0, 1)), (0, 3, (0, 2)), (1, 4, (1,)))))

    def test_rank_301(self):
        self.assertEqual(swapped(ring(3, 300, 1)), ring(3, 301, 0))
        self.many(301, swapped, ring(3, 301))
        self.many(301, swapped, ("game", ((0, 0, (0,)), (0, 301, (0,)))))

    def test_plans_of_both(self):
        chance = dice(210)
        for _ in range(100):
            game = some_game(chance, chance.randint(1, 8), 6, 3)
            other = swapped(game)
            for side, plan in enumerate(plans(game)):
                self.assertTrue(is_plan(other, ("plan", 1 - side, plan[2])))
            for sketch in some_sketches(chance, game):
                self.assertIs(is_plan(other, ("plan", 1 - sketch[1], sketch[2])), is_plan(game, sketch))

    def test_errors(self):
        for thing in junk_but():
            self.fails(BadGame, swapped, thing)
        self.fails(BadGame, swapped, ring(20001, 301))


def some_sketches(chance, game):
    """Sketches of both sides, most of them no plans: a lot that the side can stay in, with any goals in it."""
    told = []
    rows = game[1]
    for side in (0, 1):
        lot = {row for row in range(len(rows)) if chance.random() < 0.9}
        while True:
            stay = {row for row in lot if (any if rows[row][0] == side else all)([goal in lot for goal in rows[row][2]])}
            if stay == lot:
                break
            lot = stay
        moves = []
        for row in sorted(lot):
            fits = [goal for goal in rows[row][2] if goal in lot]
            moves.append((row, chance.choice(fits) if rows[row][0] == side else None))
        told.append(("plan", side, tuple(moves)))
    return told


class IsPlan(Case):
    def test_by_hand(self):
        for plan in (("plan", 0, ()), ("plan", 1, ()), ("plan", 1, ((0, None), (1, 2), (2, None)))):
            self.assertIs(is_plan(game=G, thing=plan), True)
        for wrong in (
            ("plan", 0, ((0, 0),)), ("plan", 1, ((0, None), (1, 0), (2, None)))[:2], ("plan", 1, ((0, None), (1, 2))),
            ("plan", 1, ((1, 0), (2, None))), ("plan", 1, ((0, None), (2, None), (1, 2))), ("plan", 1, ((0, 0), (1, 2), (2, None))),
            ("plan", 1, ((0, None), (1, None), (2, None))), ("plan", 1, ((0, None), (1, 1), (2, None))),
            ("plan", 1, ((0, None), (1, 2), (1, 2), (2, None))), ("plan", 1, ((0, None), (1, 2), (2, None), (3, None))),
            ("plan", 1, [(0, None), (1, 2), (2, None)]), ("plan", 2, ()), ("plan", False, ()), ("plan", None, ()), ("plan", 1, None),
            ("plan", 0, ((0, 1), (1, None), (2, 1))), ("plan", 1, ([0, None], (1, 2), (2, None))), ["plan", 1, ()], ("Plan", 0, ()),
            ("plan", 1, ((0, None), (1, Alike()), (2, None))), ("plan", 1, ((0, None), (1, True), (2, None))),
            ("plan", 1, ((0, None), (1, 2.0), (2, None))), ("plan", 1, ((0, 0, None),)), ("plan", 0, (), 0), ("plan", 1, (0,)),
            ("plan", 1, ((0,),)), ("plan", 1, ((0,), (1, 2), (2, None))), ("plan", 1, ((),)),
        ):
            self.assertIs(is_plan(G, wrong), False, wrong)
        pair = ("game", ((0, 0, (1,)), (0, 0, (1,))))
        self.assertIs(is_plan(pair, ("plan", 0, ((0, 1), (1, 1)))), True)
        self.assertIs(is_plan(pair, ("plan", 0, ((0, True), (1, 1)))), False)
        self.none_of(lambda thing: is_plan(G, thing), junk_but())

    def test_wrong_parts(self):
        plan = ("plan", 1, ((0, None), (1, 2), (2, None)))
        self.none_of(lambda thing: is_plan(G, thing), wrong_parts(plan))

    def test_by_the_words(self):
        chance = dice(211)
        seen = [0, 0]
        for _ in range(500):
            game = some_game(chance, chance.randint(1, 7), 5, 3)
            for sketch in some_sketches(chance, game):
                fine = good_plan(game, sketch)
                self.assertIs(is_plan(game, sketch), fine)
                seen[fine and len(sketch[2]) > 0] += 1
                if sketch[2]:
                    moves = list(sketch[2])
                    at = chance.randrange(len(moves))
                    moves[at] = (moves[at][0], chance.choice((None, *range(len(game[1])))))
                    spoiled = ("plan", sketch[1], tuple(moves))
                    self.assertIs(is_plan(game, spoiled), good_plan(game, spoiled))
                    spoiled = ("plan", sketch[1], tuple(moves[:at] + moves[at + 1:]))
                    self.assertIs(is_plan(game, spoiled), good_plan(game, spoiled))
        self.assertGreater(min(seen), 100)

    def test_first_moves_of_two_plans(self):
        chance = dice(212)
        for _ in range(300):
            game = some_game(chance, chance.randint(2, 8), 5, 3)
            for sketch in some_sketches(chance, game):
                if is_plan(game, sketch):
                    whole = plans(game)[sketch[1]]
                    for first, second in ((sketch, whole), (whole, sketch)):
                        moves = dict(second[2])
                        moves.update(dict(first[2]))
                        self.assertTrue(is_plan(game, ("plan", sketch[1], tuple(sorted(moves.items())))))

    def test_one_round_of_the_wrong_kind(self):
        goals = [(at + 1,) for at in range(100)] + [(0, 50)]
        for rank, fine in ((2, True), (3, False), (1, True)):
            ranks = [4] + [0] * 49 + [2] + [0] * 24 + [rank] + [0] * 25
            game = ("game", tuple((1, rank_of, leads) for rank_of, leads in zip(ranks, goals)))
            plan = ("plan", 0, tuple((row, None) for row in range(101)))
            self.assertIs(is_plan(game, plan), fine)
            told = flaw(game, plan)
            self.assertEqual(told is None, fine)
            if told is not None:
                self.assertEqual(sorted(told), list(range(50, 101)))

    def test_errors(self):
        for thing in junk_but():
            self.fails(BadGame, is_plan, thing, None)


class Plans(Case):
    def test_by_hand(self):
        self.assertEqual(plans(game=G), (("plan", 0, ()), ("plan", 1, ((0, None), (1, 2), (2, None)))))
        self.assertEqual(plans(("game", ((0, 0, (0,)),))), (("plan", 0, ((0, 0),)), ("plan", 1, ())))

    def test_each_row_stands_in_one(self):
        chance = dice(213)
        for _ in range(600):
            game = some_game(chance, chance.randint(1, 9), chance.choice((2, 4, 7)), 3)
            told = plans(game)
            self.assertEqual([plan[1] for plan in told], [0, 1])
            for side, plan in enumerate(told):
                self.assertTrue(good_plan(game, plan), game)
                self.assertTrue(is_plan(game, plan))
                self.assertEqual({row for row, _ in plan[2]}, won_by(game, side))
                for row, _ in plan[2]:
                    self.assertEqual(winner(game, row), side)

    def test_greater_ones(self):
        chance = dice(214)
        for many, ranks, most in ((60, 20, 3), (300, 302, 2), (300, 6, 4), (2000, 302, 3), (150, 302, 40)):
            for _ in range(4):
                game = some_game(chance, many, ranks, most)
                told = plans(game)
                rows = sorted([row for plan in told for row, _ in plan[2]])
                self.assertEqual(rows, list(range(many)))
                for plan in told:
                    self.assertIsNotNone(ways_of(game, plan))
                    self.assertTrue(is_plan(game, plan))

    def test_20000_rows(self):
        rows = tuple((at % 2, at % 302, tuple(sorted({at, (at + 1) % 20000}))) for at in range(20000))
        told = plans(("game", rows))
        self.assertEqual(told, (
            ("plan", 0, tuple((at, at) for at in range(0, 20000, 2))), ("plan", 1, tuple((at, at) for at in range(1, 20000, 2)))))
        game = ring(20000, 7)
        self.assertEqual(plans(game), (("plan", 0, ()), ("plan", 1, tuple((at, None) for at in range(20000)))))
        self.assertEqual(winner(game, 19999), 1)

    def test_errors(self):
        for thing in junk_but():
            self.fails(BadGame, plans, thing)
            self.fails(BadGame, winner, thing, None)
        for row in (3, -1, True, False, None, 1.0, "0"):
            self.fails(BadRow, winner, G, row)
        self.assertEqual(winner(game=G, row=2), 1)
        self.fails(BadGame, plans, ring(20001))


class Flaw(Case):
    def test_by_hand(self):
        self.assertEqual(flaw(game=G, sketch=("plan", 0, ((0, 0),))), (0,))
        self.assertIsNone(flaw(G, ("plan", 1, ((0, None), (1, 2), (2, None)))))
        self.assertIsNone(flaw(G, ("plan", 0, ())))
        told = flaw(G, ("plan", 0, ((0, 1), (1, None), (2, 1))))
        self.assertIn(told, ((1, 2), (2, 1)))

    def test_by_the_words(self):
        chance = dice(215)
        seen = [0, 0]
        for _ in range(600):
            game = some_game(chance, chance.randint(1, 8), 6, 3)
            for sketch in some_sketches(chance, game):
                told = flaw(game, sketch)
                seen[told is None] += 1
                self.assertIs(told is None, good_plan(game, sketch))
                if told is not None:
                    self.assertTrue(is_round(ways_of(game, sketch), told))
                    self.assertEqual(max(game[1][row][1] for row in told) % 2, 1 - sketch[1])
        self.assertGreater(min(seen), 100)

    def test_errors(self):
        for thing in junk_but():
            self.fails(BadGame, flaw, thing, None)
            self.fails(BadSketch, flaw, G, thing)
        self.fails(BadSketch, flaw, G, ("plan", 0, ((0, 1),)))
        self.fails(BadSketch, flaw, G, ("plan", 1, ((0, None), (1, 2))))
        self.fails(BadSketch, flaw, G, ("plan", 0, ((0, 2),)))
