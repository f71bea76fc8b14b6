"""Games in which one side picks a pair of places, and the other one goes on with one of the two."""

from allboughs.regions import Arena


class Picking:
    """The game of places with ranks, each with the pairs of places from which the even side, the picker, picks.

    The other side, the refuser, then goes left or right. It also wins where there is no pair. Known are: for each
    place whether the picker wins from there, the pair that it picks then, and for pairs the way of the refuser.
    """

    def __init__(self, ranks, options):
        """Settle the game at once; options tells the pairs of each place."""
        many = len(ranks)
        numbers = {}
        goals = []
        for pairs in options:
            for pair in pairs:
                numbers.setdefault(pair, many + 1 + len(numbers))
            goals.append([numbers[pair] for pair in pairs] or [many])
        goals.append([many])
        for left, right in numbers:
            goals.append([left] if left == right else [left, right])
        sides = [0] * (many + 1) + [1] * len(numbers)
        arena = Arena(sides, list(ranks) + [1] + [0] * len(numbers), goals)
        known = list(numbers)
        self.wins = [arena.winners[place] == 0 for place in range(many)]
        self.picked = [known[arena.picks[place] - many - 1] if self.wins[place] else None for place in range(many)]
        self.ways = {pair: 0 if arena.picks[row] == pair[0] else 1 for pair, row in numbers.items()}
