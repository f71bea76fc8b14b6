"""Point [14] and its example in [15]."""

import itertools
import time

from allboughs.errors import BadGame
from allboughs.games import winner
from allboughs.worths import are_worths, worths
from tests.judging import wrong_parts
from tests.plans import some_game
from tests.support import Case, dice, junk_but

G = ("game", ((0, 1, (0, 1)), (1, 2, (0, 2)), (0, 3, (1,))))
TOLD = ((1, 3, 3), (0, None, 1), (None, 2, None))
LIKED = [*range(301, 0, -2), *range(0, 302, 2)]


def liking(rank):
    """Where a rank comes in .., 5, 3, 1, 0, 2, 4, .."""
    return LIKED.index(rank)


def tops_from(game, picks, start):
    """The greatest ranks of the rounds to which one comes from a row where rows with a pick lead to it alone."""
    rows = game[1]
    ways = [(pick,) if pick is not None else goals for (_, _, goals), pick in zip(rows, picks)]

    def reached(row, most):
        met, todo = set(), [goal for goal in ways[row] if rows[goal][1] <= most]
        while todo:
            at = todo.pop()
            if at not in met:
                met.add(at)
                todo.extend(goal for goal in ways[at] if rows[goal][1] <= most)
        return met

    return {rows[row][1] for row in reached(start, 10 ** 6) | {start} if row in reached(row, rows[row][1])}


def good_worths(game, told):
    """Whether a triple with fitting ranks is one of worths, by the words of [14]."""
    ranks, kept, broken = told
    for side, picks in ((0, kept), (1, broken)):
        for (owner, _, goals), pick in zip(game[1], picks):
            if (pick not in goals) if owner == side else (pick is not None):
                return False
        for row, worth in enumerate(ranks):
            for top in tops_from(game, picks, row):
                if side == 0 and liking(top) < liking(worth) or side == 1 and liking(top) > liking(worth):
                    return False
    return True


def ring(many, ranks):
    """One row behind the other, and back to the first one."""
    return ("game", tuple((at % 2, ranks(at), ((at + 1) % many,)) for at in range(many)))


class ByHand(Case):
    def test_by_hand(self):
        self.assertEqual(worths(game=G), TOLD)
        self.assertIs(are_worths(game=G, thing=TOLD), True)
        # From 0 the keeper goes on to 1, so the breaker has its 3.
        self.assertFalse(are_worths(G, ((1, 3, 3), (1, None, 1), (None, 2, None))))
        self.assertFalse(are_worths(G, ((1, 3, 3), (0, None, 1), (None, 0, None))))
        self.assertFalse(are_worths(G, ((1, 1, 3), (0, None, 1), (None, 2, None))))

    def test_one_row(self):
        for side in (0, 1):
            for rank in (0, 1, 2, 300, 301):
                game = ("game", ((side, rank, (0,)),))
                told = ((rank,), (None if side else 0,), (0 if side else None,))
                self.assertEqual(worths(game), told)
                for other in (0, 1, 2, 3, 300, 301):
                    self.assertIs(are_worths(game, ((other,), *told[1:])), other == rank)

    def test_equal_ranks(self):
        game = ("game", ((0, 2, (1, 2)), (1, 2, (0, 2)), (0, 2, (2,))))
        told = worths(game)
        self.assertEqual(told[0], (2, 2, 2))
        for first, second in itertools.product((1, 2), (0, 2)):
            self.assertTrue(are_worths(game, ((2, 2, 2), (first, None, 2), (None, second, None))))

    def test_the_sequence_of_liking(self):
        """The keeper picks among rows that stay where they are."""
        for ranks in itertools.permutations((5, 3, 1, 0, 2, 4), 3):
            rows = tuple((0, rank, (at + 2,)) for at, rank in enumerate(ranks))
            game = ("game", ((0, 7, (2, 3, 4)), (1, 7, (2, 3, 4)), *rows))
            told = worths(game)
            self.assertEqual(told[0], (max(ranks, key=liking), min(ranks, key=liking), *ranks))
            self.assertEqual(told[1][0], 2 + ranks.index(max(ranks, key=liking)))
            self.assertEqual(told[2][1], 2 + ranks.index(min(ranks, key=liking)))


class Hearts(Case):
    def test_by_the_words(self):
        chance = dice(660)
        met = set()
        for _ in range(700):
            game = some_game(chance, chance.randint(1, 9), chance.randint(1, 8), 4)
            told = worths(game)
            self.assertTrue(good_worths(game, told))
            self.assertIs(are_worths(game, told), True)
            for row, (side, _, goals) in enumerate(game[1]):
                self.assertIs(told[0][row] % 2 == 0, winner(game, row) == 0)
                best = max if side == 0 else min
                self.assertEqual(told[0][row], best([told[0][goal] for goal in goals], key=liking))
                met.add(told[0][row])
        self.assertGreater(len(met), 6)

    def test_just_one_worth(self):
        """All triples of small games are tried: those that are worths have one row of ranks."""
        chance = dice(661)
        for _ in range(40):
            game = some_game(chance, chance.randint(1, 3), 4, 3)
            rows = game[1]
            options = [goals for _, _, goals in rows]
            found = set()
            for ranks in itertools.product(range(5), repeat=len(rows)):
                for picks in itertools.product(*options):
                    kept = tuple(pick if side == 0 else None for (side, _, _), pick in zip(rows, picks))
                    broken = tuple(pick if side == 1 else None for (side, _, _), pick in zip(rows, picks))
                    if are_worths(game, (ranks, kept, broken)):
                        found.add(ranks)
            self.assertEqual(found, {worths(game)[0]})

    def test_judge_of_what_is_changed(self):
        chance = dice(662)
        seen = [0, 0]
        for _ in range(1500):
            game = some_game(chance, chance.randint(2, 7), 6, 3)
            told = [list(row) for row in worths(game)]
            row = chance.randrange(len(game[1]))
            side, _, goals = game[1][row]
            if chance.random() < 0.4:
                told[0][row] = chance.randrange(7)
            else:
                told[1 + side][row] = chance.choice(goals)
            thing = tuple(tuple(part) for part in told)
            fine = good_worths(game, thing)
            seen[fine] += 1
            self.assertIs(are_worths(game, thing), fine)
        self.assertGreater(min(seen), 200)


class Soon(Case):
    def test_games_of_many_rows(self):
        chance = dice(663)
        many = 20000
        games = [some_game(chance, many, 302, 3), some_game(chance, many, 10, 10), ring(many, lambda at: at % 302), ring(many, lambda at: at % 2)]
        for game in games:
            start = time.time()
            self.assertTrue(are_worths(game, worths(game)))
            self.assertLess(time.time() - start, 15)

    def test_small_games(self):
        chance = dice(664)
        games = [some_game(chance, 8, 8, 4) for _ in range(200)]
        start = time.time()
        for game in games:
            are_worths(game, worths(game))
        self.assertLess(time.time() - start, 3)


class Errors(Case):
    def test_errors(self):
        for thing in junk_but():
            self.fails(BadGame, worths, thing)
            self.fails(BadGame, are_worths, thing, None)

    def test_any_value(self):
        self.none_of(lambda thing: are_worths(G, thing), junk_but())
        self.none_of(lambda thing: are_worths(G, thing), wrong_parts(TOLD))
        for wrong in (
            ((1, 3, 3), (0, None, None), (None, 2, None)), ((1, 3, 3), (0, 2, 1), (None, 2, None)), ((1, 3, 3), (0, None, 1), (0, 2, None)),
            ((1, 3, 3), (None, None, 1), (None, 2, None)), ((1, 3, 3), (2, None, 1), (None, 2, None)), ((1, 3, 5), (0, None, 1), (None, 2, None)),
            ((True, 3, 3), (0, None, 1), (None, 2, None)), ((1, 3, 3), (False, None, 1), (None, 2, None)), ((1, 3, 3), (0, None, True), (None, 2, None)),
            ((1, 3), (0, None, 1), (None, 2, None)), ((1, 3, 3, 3), (0, None, 1), (None, 2, None)), ((1, 3, 3), (0, None), (None, 2, None)),
            ((1, 3, 3), (0, None, 1), (None, 2)), ((1, 3, 3), (0, None, 1)), [(1, 3, 3), (0, None, 1), (None, 2, None)], ((1, 3, -3), (0, None, 1), (None, 2, None)),
            ((1, 3, 10 ** 30), (0, None, 1), (None, 2, None)), ((None, 3, 3), (0, None, 1), (None, 2, None)), ((1, 3, 3), (10 ** 30, None, 1), (None, 2, None)),
            ((1, 3, 303), (0, None, 1), (None, 2, None)),
        ):
            self.assertIs(are_worths(G, wrong), False, wrong)
