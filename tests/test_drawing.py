"""Point [11], and what the example of part 3 says of it."""

from allboughs.drawing import drawn
from allboughs.errors import BadAims, BadGame, BadSide
from tests.plans import some_game
from tests.support import Case, dice, junk_but
from tests.test_games import G, ring


def drawn_by_the_words(game, side, aims):
    """The fewest steps for each row: within no step the aims alone, within one more what can be made to come there."""
    rows = game[1]
    told = {row: 0 for row in aims}
    steps = 0
    while True:
        steps += 1
        fresh = []
        for row, (owner, _, goals) in enumerate(rows):
            if row not in told and (any if owner == side else all)([goal in told for goal in goals]):
                fresh.append(row)
        if not fresh:
            return tuple(told.get(row) for row in range(len(rows)))
        told.update({row: steps for row in fresh})


class Drawn(Case):
    def test_by_hand(self):
        self.assertEqual(drawn(game=G, side=1, aims=(2,)), (None, 1, 0))
        self.assertEqual(drawn(G, 0, (2,)), (None, None, 0))
        self.assertEqual(drawn(G, 0, (1,)), (1, 0, 1))
        self.assertEqual(drawn(G, 1, (0,)), (0, 1, 2))

    def test_all_rows_and_none(self):
        for side in (0, 1):
            self.assertEqual(drawn(G, side, ()), (None, None, None))
            self.assertEqual(drawn(G, side, (0, 1, 2)), (0, 0, 0))

    def test_no_step_leads_to_aims(self):
        game = ("game", ((0, 0, (0,)), (1, 0, (1,)), (0, 0, (0, 1))))
        self.assertEqual(drawn(game, 0, (2,)), (None, None, 0))
        self.assertEqual(drawn(game, 0, (1,)), (None, 0, 1))
        self.assertEqual(drawn(game, 1, (1,)), (None, 0, None))
        self.assertEqual(drawn(game, 1, (0, 1)), (0, 0, 1))

    def test_the_other_side_takes_the_slowest_goal(self):
        game = ("game", ((1, 0, (1, 3)), (0, 0, (2,)), (0, 0, (3,)), (0, 0, (3,))))
        self.assertEqual(drawn(game, 0, (3,)), (3, 2, 1, 0))
        self.assertEqual(drawn(game, 1, (3,)), (1, 2, 1, 0))

    def test_by_the_words(self):
        chance = dice(300)
        met = 0
        for _ in range(500):
            game = some_game(chance, chance.randint(1, 9), 3, 3)
            aims = tuple(row for row in range(len(game[1])) if chance.random() < 0.25)
            for side in (0, 1):
                told = drawn(game, side, aims)
                self.assertEqual(told, drawn_by_the_words(game, side, aims))
                met += max([steps or 0 for steps in told]) > 2
        self.assertGreater(met, 40)

    def test_steps_and_keeping_away(self):
        """One goal that is a step nearer is enough for the side, all are so for the other one, which else keeps away."""
        chance = dice(301)
        for _ in range(200):
            game = some_game(chance, chance.randint(5, 40), 3, 3)
            aims = tuple(sorted(chance.sample(range(len(game[1])), 2)))
            side = chance.randrange(2)
            told = drawn(game, side, aims)
            for row, (owner, _, goals) in enumerate(game[1]):
                near = [told[goal] for goal in goals]
                if told[row] is None:
                    self.assertTrue(all(one is None for one in near) if owner == side else None in near)
                elif told[row] == 0:
                    self.assertIn(row, aims)
                elif owner == side:
                    self.assertEqual(min(one for one in near if one is not None), told[row] - 1)
                else:
                    self.assertEqual(max(near), told[row] - 1)

    def test_20000_rows(self):
        told = drawn(ring(20000), 1, (0,))
        self.assertEqual(told, (0, *range(19999, 0, -1)))

    def test_errors(self):
        for thing in junk_but():
            self.fails(BadGame, drawn, thing, None, None)
        for side in junk_but(0, 1) + [2, -1]:
            self.fails(BadSide, drawn, G, side, None)
        for aims in junk_but((), (0,)) + [(1, 0), (0, 0), (3,), (0, 3), (-1,), (True,), [0], (0, 1, 1), (0, None), 0]:
            self.fails(BadAims, drawn, G, 0, aims)
        self.fails(BadGame, drawn, ring(20001), 2, None)
