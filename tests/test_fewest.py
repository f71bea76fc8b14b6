"""Point [15]."""

import itertools

from allboughs.errors import BadGame, BadRow
from allboughs.fewest import fewest
from allboughs.games import is_plan, winner
from tests.plans import good_plan, some_game
from tests.support import Case, dice, junk_but
from tests.test_games import G, ring


def fewest_by_the_words(game, row):
    """The least number of moves of a plan in which the row stands, by trying all sketches."""
    rows = game[1]
    for many in range(1, len(rows) + 1):
        for stands in itertools.combinations(range(len(rows)), many):
            if row in stands:
                for side in (0, 1):
                    options = [rows[at][2] if rows[at][0] == side else (None,) for at in stands]
                    for goals in itertools.product(*options):
                        if good_plan(game, ("plan", side, tuple(zip(stands, goals)))):
                            return many
    return None


class Fewest(Case):
    def test_by_hand(self):
        self.assertEqual(fewest(game=G, row=0), ("plan", 1, ((0, None), (1, 2), (2, None))))
        self.assertEqual(fewest(G, 1), ("plan", 1, ((1, 2), (2, None))))
        self.assertEqual(fewest(G, 2), ("plan", 1, ((1, 2), (2, None))))
        one = ("game", ((0, 0, (1, 2)), (0, 0, (3,)), (1, 1, (2, 0)), (0, 2, (3,))))
        self.assertEqual(fewest(one, 0), ("plan", 0, ((0, 1), (1, 3), (3, 3))))
        self.assertEqual(fewest(("game", ((1, 1, (0,)),)), 0), ("plan", 1, ((0, 0),)))
        self.assertEqual(fewest(("game", ((0, 1, (0,)),)), 0), ("plan", 1, ((0, None),)))

    def test_not_the_nearest_goal(self):
        """The way with fewest rows, though each single pick of the whole plan may look as good."""
        game = ("game", ((0, 0, (1, 5)), (0, 0, (2,)), (0, 0, (3,)), (0, 0, (4,)), (0, 2, (0,)), (0, 1, (6,)), (0, 2, (0,))))
        self.assertEqual(fewest(game, 0), ("plan", 0, ((0, 5), (5, 6), (6, 0))))
        self.assertEqual(fewest(game, 1)[2], ((0, 1), (1, 2), (2, 3), (3, 4), (4, 0)))

    def test_by_trying_all(self):
        chance = dice(330)
        met = set()
        for _ in range(120):
            game = some_game(chance, chance.randint(1, 5), chance.choice((2, 4)), 3)
            row = chance.randrange(len(game[1]))
            told = fewest(game, row)
            self.assertTrue(good_plan(game, told))
            self.assertIn(row, [at for at, _ in told[2]])
            self.assertEqual(told[1], winner(game, row))
            self.assertEqual(len(told[2]), fewest_by_the_words(game, row), (game, row))
            met.add(len(told[2]))
        self.assertEqual(met, {1, 2, 3, 4, 5})

    def test_12_rows(self):
        self.assertEqual(fewest(ring(12), 3), ("plan", 0, tuple((at, (at + 1) % 12) for at in range(12))))
        self.many(12, fewest, ring(13), 3)
        self.many(12, fewest, ring(20000), 3)
        chance = dice(331)
        for _ in range(6):
            game = some_game(chance, 12, 4, 3)
            self.assertTrue(is_plan(game, fewest(game, 11)))

    def test_errors(self):
        for thing in junk_but():
            self.fails(BadGame, fewest, thing, None)
        for row in junk_but(0, 1) + [3, -1]:
            self.fails(BadRow, fewest, G, row)
        self.fails(BadRow, fewest, ring(13), 13)
