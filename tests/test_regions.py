"""The modules that settle games and look for rounds: everything told as open rests on them."""

import time

from allboughs.circles import has_round
from allboughs.promoting import Promoting
from allboughs.regions import Arena
from tests.judging import has_round as round_by_hand
from tests.support import Case, dice, kept_spots


def some_game(chance, many, ranks, most):
    """Sides, ranks and goals."""
    sides = [chance.randrange(2) for _ in range(many)]
    goals = [chance.sample(range(many), chance.randint(1, min(many, most))) for _ in range(many)]
    return sides, [chance.randrange(ranks) for _ in range(many)], goals


def even_rows(sides, ranks, goals):
    """The rows from which the even side wins, by least and greatest lots."""
    def fine(row, lot):
        join = any if sides[row] == 0 else all
        return join([goal in lot for goal in goals[row]])

    return kept_spots(range(len(sides)), lambda row: ranks[row], fine)

def sources_of(goals):
    """The rows that lead to each row."""
    sources = [[] for _ in goals]
    for row, leads in enumerate(goals):
        for goal in leads:
            sources[goal].append(row)
    return sources


def far_and_near(many):
    """A game that cannot be parted for long, with all ranks one behind the other."""
    goals = [sorted({(at + 1) % many, (7 * at + 3) % many}) for at in range(many)]
    return [at % 2 for at in range(many)], [at % 302 for at in range(many)], goals


class Settled(Case):
    def test_winners(self):
        chance = dice(100)
        for _ in range(600):
            sides, ranks, goals = some_game(chance, chance.randint(1, 9), chance.choice((2, 4, 6)), 3)
            arena = Arena(sides, ranks, goals)
            self.assertEqual({row for row, side in enumerate(arena.winners) if side == 0}, even_rows(sides, ranks, goals))

    def test_picks(self):
        chance = dice(101)
        for _ in range(300):
            sides, ranks, goals = some_game(chance, chance.randint(1, 60), chance.choice((2, 5, 40)), 4)
            arena = Arena(sides, ranks, goals)
            for side in (0, 1):
                rows = [row for row, winner in enumerate(arena.winners) if winner == side]
                ways = {row: [arena.picks[row]] if sides[row] == side else goals[row] for row in rows}
                self.assertTrue(all(goal in ways for row in rows for goal in ways[row]))
                self.assertTrue(all(ways[row][0] in goals[row] for row in rows))
                self.assertFalse(round_by_hand(lambda row: ranks[row], ways, 1 - side))

    def wins(self, sides, ranks, goals, told):
        """Raise a failure unless both sides win as it is told."""
        for side in (0, 1):
            rows = [row for row, winner in enumerate(told.winners) if winner == side]
            numbers = {row: at for at, row in enumerate(rows)}
            leads = [[told.picks[row]] if sides[row] == side else goals[row] for row in rows]
            self.assertTrue(all(lead[0] in goals[row] for row, lead in zip(rows, leads)))
            ways = [[numbers[goal] for goal in row] for row in leads]
            self.assertFalse(has_round([ranks[row] for row in rows], ways, 1 - side))

    def test_many_rows_and_ranks(self):
        chance = dice(102)
        sides, ranks, goals = some_game(chance, 6000, 302, 3)
        self.wins(sides, ranks, goals, Arena(sides, ranks, goals))

    def test_regions_put_together(self):
        """Small games, too, which are settled in another way as a rule."""
        chance = dice(104)
        for _ in range(1500):
            sides, ranks, goals = some_game(chance, chance.randint(1, 14), chance.randint(1, 9), 3)
            told = Promoting(sides, ranks, goals, sources_of(goals))
            self.assertTrue(told.settle(10 ** 6))
            self.assertEqual(told.winners, Arena(sides, ranks, goals).winners)
            self.wins(sides, ranks, goals, told)

    def test_what_takes_too_long_is_given_up(self):
        sides, ranks, goals = far_and_near(1000)
        self.assertFalse(Promoting(sides, ranks, goals, sources_of(goals)).settle(1000))
        self.assertTrue(Promoting(sides, ranks, goals, sources_of(goals)).settle(10 ** 6))

    def test_both_ways_on_large_games(self):
        """On the one kind regions are put together soon, on the other one that is given up."""
        chance = dice(105)
        many = 1500
        sides = [chance.randrange(2) for _ in range(many)]
        ranks = [chance.randrange(302) for _ in range(many)]
        near = [sorted({(at + chance.randint(1, 9)) % many, (at - chance.randint(1, 9)) % many}) for at in range(many)]
        for game in ((sides, ranks, near), far_and_near(many)):
            self.wins(*game, Arena(*game))

    def test_soon(self):
        start = time.time()
        Arena(*far_and_near(20000))
        self.assertLess(time.time() - start, 8)

    def test_one_rank_on_top_of_the_other(self):
        many = 302
        goals = [[max(0, at - 1), min(many - 1, at + 1)] for at in range(many)]
        for side in (0, 1):
            arena = Arena([side] * many, list(range(many)), goals)
            self.assertEqual(arena.winners, [side] * many)


class Rounds(Case):
    def test_by_chance(self):
        chance = dice(103)
        seen = [0, 0]
        for _ in range(1500):
            many = chance.randint(0, 8)
            goals = [[goal for goal in range(many) if chance.random() < 1.2 / many] for _ in range(many)]
            ranks = [chance.randrange(5) for _ in range(many)]
            for odd in (0, 1):
                told = has_round(ranks, goals, odd)
                self.assertIs(told, round_by_hand(lambda row: ranks[row], dict(enumerate(goals)), odd))
                seen[told] += 1
        self.assertGreater(min(seen), 300)

    def test_a_long_one(self):
        goals = [[(at + 1) % 20000] for at in range(20000)]
        self.assertTrue(has_round([7] + [2] * 19999, goals, 1))
        self.assertFalse(has_round([7] + [2] * 19999, goals, 0))
        self.assertFalse(has_round([7] * 20000, [[at + 1] for at in range(19999)] + [[]], 1))
