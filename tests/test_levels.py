"""Point [13], with [10], [12] and what the example in [15] says of levels."""

import itertools
import time

from allboughs.errors import BadGame, BadSide
from allboughs.games import is_plan, settled_game, winner
from allboughs.leveling import Leveling
from allboughs.levels import are_levels, bounds_of, levels, odds_of
from allboughs.lifting import Lifting
from tests.judging import wrong_parts
from tests.plans import some_game
from tests.support import Case, dice, junk_but

G = ("game", ((0, 1, (0, 1)), (1, 2, (0, 2)), (0, 3, (1,))))


def odds(game, side):
    """The odds of a side, by the words of [13]."""
    return sorted({rank for _, rank, _ in game[1] if rank % 2 == 1 - side}, reverse=True)


def falls(game, side, told, row, goal):
    """Whether a row falls to a goal, by the words of [13]."""
    if told[row] is None or told[goal] is None:
        return False
    rank = game[1][row][1]
    kept = [at for at, odd in enumerate(odds(game, side)) if odd >= rank]
    mine, theirs = [tuple(told[one][at] for at in kept) for one in (row, goal)]
    return mine > theirs if rank in odds(game, side) else mine >= theirs


def good_levels(game, side, told):
    """Whether a tuple with a fitting tuple, or None, for each row is levels, by the words of [13]."""
    for row, (owner, _, goals) in enumerate(game[1]):
        if told[row] is not None:
            fine = [falls(game, side, told, row, goal) for goal in goals]
            if not (any(fine) if owner == side else all(fine)):
                return False
    return True


def all_levels(game, side):
    """All tuples that are of the form of levels."""
    known = odds(game, side)
    bounds = [sum(rank == odd for _, rank, _ in game[1]) for odd in known]
    one = [None, *itertools.product(*[range(bound + 1) for bound in bounds])]
    return itertools.product(one, repeat=len(game[1]))


def lesser(one, other):
    """Whether a level is less than another one, where None is the greatest."""
    return one is not None and (other is None or one < other)


def ring(many, ranks):
    """One row behind the other, and back to the first one."""
    return ("game", tuple((at % 2, ranks(at), ((at + 1) % many,)) for at in range(many)))


def stairs(many):
    """Rows of the keeper with the rank 1 that lead on, and back to the first one; the last one has the rank 2."""
    return ("game", tuple((0, 1, (at + 1, 0)) for at in range(many - 1)) + ((0, 2, (many - 1,)),))


class ByHand(Case):
    def test_by_hand(self):
        self.assertEqual(levels(game=G, side=1), ((1,), (1,), (0,)))
        self.assertEqual(levels(G, 0), (None, None, None))
        self.assertIs(are_levels(game=G, side=1, thing=((1,), (1,), (0,))), True)
        self.assertTrue(are_levels(G, 0, (None, None, None)))

    def test_without_odds(self):
        game = ("game", ((0, 0, (0, 1)), (1, 2, (0,))))
        self.assertEqual(levels(game, 0), ((), ()))
        self.assertEqual(levels(game, 1), (None, None))
        self.assertTrue(are_levels(game, 0, ((), ())))
        self.assertTrue(are_levels(game, 0, (None, None)))
        # The row 0 falls to itself; the other one leads to it alone.
        self.assertTrue(are_levels(game, 0, ((), None)))
        self.assertFalse(are_levels(game, 0, (None, ())))

    def test_one_row(self):
        for rank in range(4):
            game = ("game", ((0, rank, (0,)),))
            for side in (0, 1):
                told = None if rank % 2 != side else ()
                self.assertEqual(levels(game, side), (told,))
                self.assertTrue(are_levels(game, side, (None,)))
                self.assertIs(are_levels(game, side, ((0,) if told is None else (),)), told is not None)

    def test_a_rank_of_many_rows(self):
        game = stairs(5)
        self.assertEqual(levels(game, 0), ((4,), (3,), (2,), (1,), (0,)))
        self.assertTrue(are_levels(game, 0, ((4,), (4,), (4,), (4,), (4,))) is False)
        self.assertTrue(are_levels(game, 0, (None, (4,), (3,), (2,), (0,))))
        self.assertFalse(are_levels(game, 0, ((5,), (4,), (3,), (2,), (0,))))
        self.assertFalse(are_levels(game, 0, ((3,), (3,), (2,), (1,), (0,))))
        self.assertFalse(are_levels(game, 0, ((4,), (3,), None, (1,), (0,))))
        self.assertTrue(are_levels(game, 0, (None, None, None, (1,), (0,))))

    def test_the_breakers_rows_need_all_goals(self):
        game = ("game", ((1, 1, (1, 2)), (0, 2, (1,)), (0, 1, (1,))))
        self.assertEqual(levels(game, 0), ((2,), (0,), (1,)))
        self.assertFalse(are_levels(game, 0, ((1,), (0,), (1,))))
        self.assertFalse(are_levels(game, 0, ((2,), (0,), None)))

    def test_cut(self):
        """A row with an even rank cuts what lies below it; a greater number ahead makes up for a lesser one behind."""
        game = ("game", ((0, 4, (1,)), (0, 3, (2,)), (0, 1, (3,)), (0, 2, (0,))))
        self.assertEqual(levels(game, 0), ((0, 0), (1, 0), (0, 1), (0, 0)))
        self.assertTrue(are_levels(game, 0, ((0, 1), (1, 1), (0, 1), (0, 0))))
        self.assertTrue(are_levels(game, 0, ((1, 1), (1, 1), (0, 1), (0, 0))) is False)
        self.assertTrue(are_levels(game, 0, ((0, 0), (1, 1), (0, 1), (0, 0))))
        self.assertFalse(are_levels(game, 0, ((0, 0), (1, 0), (0, 0), (0, 0))))
        self.assertFalse(are_levels(game, 0, ((0, 0), (0, 1), (0, 1), (0, 0))))


class Hearts(Case):
    def test_least_of_all(self):
        """Of all levels of a small game none has, at any row, less than the least ones."""
        chance = dice(500)
        for _ in range(120):
            game = some_game(chance, chance.randint(1, 3), 5, 3)
            for side in (0, 1):
                told = levels(game, side)
                self.assertTrue(good_levels(game, side, told))
                self.assertIs(are_levels(game, side, told), True)
                for other in all_levels(game, side):
                    fine = good_levels(game, side, other)
                    self.assertIs(are_levels(game, side, other), fine)
                    if fine:
                        self.assertFalse(any(lesser(one, least) for one, least in zip(other, told)))

    def test_who_wins_and_how(self):
        chance = dice(501)
        for _ in range(400):
            game = some_game(chance, chance.randint(1, 12), 7, 4)
            for side in (0, 1):
                told = levels(game, side)
                self.assertTrue(good_levels(game, side, told))
                self.assertIs(are_levels(game, side, told), True)
                moves = []
                for row, level in enumerate(told):
                    self.assertIs(level is not None, winner(game, row) == side)
                    if level is not None:
                        owner, _, goals = game[1][row]
                        fallen = [goal for goal in goals if falls(game, side, told, row, goal)]
                        moves.append((row, chance.choice(fallen) if owner == side else None))
                self.assertTrue(is_plan(game, ("plan", side, tuple(moves))))

    def test_both_ways_to_find_them(self):
        chance = dice(502)
        for _ in range(400):
            game = some_game(chance, chance.randint(1, 14), 8, 4)
            for side in (0, 1):
                rows, known, arena = game[1], odds_of(game[1], side), settled_game(game)
                won = [row for row in range(len(rows)) if arena.winners[row] == side]
                lifting = Lifting(rows, side, known, bounds_of(rows, known), won)
                self.assertTrue(lifting.lift(10 ** 6))
                counts = Leveling(rows, side, known, arena).counts
                self.assertEqual(lifting.lifted, {row: tuple(counts[row].get(odd, 0) for odd in known) for row in won})
                self.assertEqual(sorted(counts), won)

    def test_judge_of_what_is_changed(self):
        chance = dice(503)
        seen = [0, 0]
        for _ in range(600):
            game = some_game(chance, chance.randint(2, 6), 5, 3)
            side = chance.randrange(2)
            told = list(levels(game, side))
            known = odds(game, side)
            row = chance.randrange(len(told))
            if told[row] is None or chance.random() < 0.3:
                told[row] = None if told[row] is not None else tuple(0 for _ in known)
            elif known:
                at = chance.randrange(len(known))
                level = list(told[row])
                level[at] += chance.choice((-1, 1))
                told[row] = tuple(level)
            bounds = [sum(rank == odd for _, rank, _ in game[1]) for odd in known]
            fits = all(one is None or all(0 <= n <= most for n, most in zip(one, bounds)) for one in told)
            fine = fits and good_levels(game, side, told)
            seen[fine] += 1
            self.assertIs(are_levels(game, side, tuple(told)), fine)
        self.assertGreater(min(seen), 60)


class Soon(Case):
    def test_games_of_many_rows(self):
        chance = dice(504)
        many = 20000
        games = [some_game(chance, many, ranks, most) for ranks, most in ((302, 3), (10, 3), (3, 2))]
        games.extend([stairs(many), ring(many, lambda at: at % 302), ring(many, lambda at: 1 if at else 2)])
        for game in games:
            for side in (0, 1):
                start = time.time()
                told = levels(game, side)
                self.assertTrue(are_levels(game, side, told))
                self.assertLess(time.time() - start, 20)
        self.assertEqual(levels(stairs(many), 0)[0], (many - 1,))

    def test_small_games(self):
        chance = dice(505)
        games = [some_game(chance, 12, 8, 4) for _ in range(100)]
        start = time.time()
        for game in games:
            self.assertTrue(are_levels(game, 1, levels(game, 1)))
        self.assertLess(time.time() - start, 3)


class Errors(Case):
    def test_errors(self):
        for thing in junk_but():
            self.fails(BadGame, levels, thing, None)
            self.fails(BadGame, are_levels, thing, None, None)
        for side in junk_but(0, 1):
            self.fails(BadSide, levels, G, side)
            self.fails(BadSide, are_levels, G, side, ((1,), (1,), (0,)))

    def test_any_value(self):
        told = ((1,), (1,), (0,))
        self.none_of(lambda thing: are_levels(G, 1, thing), junk_but())
        self.none_of(lambda thing: are_levels(G, 1, thing), [wrong for wrong in wrong_parts(told) if wrong != (None, (1,), (0,))])
        for wrong in (
            ((1,), (1,)), ((1,), (1,), (0,), (0,)), ((1,), (1,), ()), ((1, 0), (1,), (0,)), [(1,), (1,), (0,)], ((1,), [1], (0,)),
            ((True,), (1,), (0,)), ((1,), (1,), (False,)), ((1,), (1,), (-1,)), ((1,), (1,), (10 ** 30,)), ((2,), (1,), (0,)),
            ((1,), (0,), (0,)), ((1,), None, (0,)), ("1", (1,), (0,)), {}, ((1,), (1,), 0),
        ):
            self.assertIs(are_levels(G, 1, wrong), False, wrong)
