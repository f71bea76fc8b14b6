"""Guides and refusals: why choices let a wood by, or why they do not."""

from allboughs.checks import ascends, is_number, is_pair, is_row
from allboughs.choices import check_choices
from allboughs.circles import has_round
from allboughs.errors import OtherScope, TooMany
from allboughs.picking import Picking
from allboughs.woods import check_wood, letters_of

MOST_STANDINGS = 20000


def check_standings(choices, wood):
    """Raise TooMany if the nodes of the wood times the states are too many."""
    if len(wood[2]) * len(choices[2]) > MOST_STANDINGS:
        raise TooMany(MOST_STANDINGS)


def check_fit(choices, wood):
    """Raise the errors of all functions of choices and a wood of their scope."""
    check_choices(choices)
    check_wood(wood)
    if choices[1] != wood[1]:
        raise OtherScope("choices and a wood of unlike scopes")
    check_standings(choices, wood)


def letter_numbers(choices, wood):
    """For each node of a wood the number of its letter in the scope of the choices."""
    numbers = {letter: at for at, letter in enumerate(letters_of(choices[1]))}
    return [numbers[letter] for letter, _, _ in wood[2]]


class Standings:
    """The standings to which one can come from (0, 0), whatever is picked, and the game of them.

    pairs_of tells the pairs of states from which may be picked, for each node and each state.
    """

    def __init__(self, nodes, ranks, pairs_of):
        """Meet the standings, and settle the game at once."""
        self.nodes = nodes
        self.spots = [(0, 0)]
        self.numbers = {(0, 0): 0}
        self.options = []
        while len(self.options) < len(self.spots):
            node, state = self.spots[len(self.options)]
            self.options.append([self.leads(node, pair) for pair in pairs_of(node, state)])
        self.game = Picking([ranks[state] for _, state in self.spots], self.options)

    def leads(self, node, pair):
        """The numbers of the two standings below a node with a pair of states."""
        return (self.number((self.nodes[node][1], pair[0])), self.number((self.nodes[node][2], pair[1])))

    def number(self, spot):
        """The number of a standing, which is met now if it was not met yet."""
        if spot not in self.numbers:
            self.numbers[spot] = len(self.spots)
            self.spots.append(spot)
        return self.numbers[spot]

    def picked_pair(self, at):
        """The pair of states that the picker takes at a standing from which it wins."""
        left, right = self.game.picked[at]
        return (self.spots[left][1], self.spots[right][1])

    def refused_ways(self, at):
        """The ways that the refuser takes at a standing from which it wins, for all pairs in their sequence."""
        return tuple([self.game.ways[pair] for pair in self.options[at]])

    def followed(self):
        """The numbers of the standings to which one comes if who wins from (0, 0) goes by its picks."""
        order = [0]
        met = {0: True}
        at = 0
        while at < len(order):
            here = order[at]
            at += 1
            if self.game.wins[0]:
                goals = list(self.game.picked[here])
            else:
                goals = [pair[self.game.ways[pair]] for pair in self.options[here]]
            for goal in goals:
                if goal not in met:
                    met[goal] = True
                    order.append(goal)
        return order


def standings_of(choices, wood):
    """The standings of choices and a wood of their scope."""
    rows = choices[2]
    places = letter_numbers(choices, wood)
    return Standings(wood[2], [rank for rank, _ in rows], lambda node, state: rows[state][1][places[node]])


def guide(choices, wood):
    """A guide for a wood that is let by; None if it is not."""
    check_fit(choices, wood)
    found = standings_of(choices, wood)
    if not found.game.wins[0]:
        return None
    return tuple(sorted([(found.spots[at], found.picked_pair(at)) for at in found.followed()]))


def refusal(choices, wood):
    """A refusal for a wood that is not let by; None if it is."""
    check_fit(choices, wood)
    found = standings_of(choices, wood)
    if found.game.wins[0]:
        return None
    return tuple(sorted([(found.spots[at], found.refused_ways(at)) for at in found.followed()]))


def are_spots(thing, choices, wood):
    """Whether it is an ascending tuple of pairs that begin with unlike standings, (0, 0) one of them."""
    if not isinstance(thing, tuple) or not all(is_row(pair, 2, 2) for pair in thing):
        return False
    if not all(is_pair(spot, len(wood[2]), len(choices[2])) for spot, _ in thing):
        return False
    spots = [spot for spot, _ in thing]
    return ascends(spots) and (0, 0) in spots


def is_kept_within(choices, spots, goals, odd):
    """Whether all goals are among the spots, and no round has an odd, or an even, greatest rank of its states."""
    numbers = {spot: at for at, spot in enumerate(spots)}
    if not all(goal in numbers for row in goals for goal in row):
        return False
    ranks = [choices[2][state][0] for _, state in spots]
    return not has_round(ranks, [[numbers[goal] for goal in row] for row in goals], odd)


def is_guide(choices, wood, thing):
    """Whether a value of any kind is a guide."""
    check_fit(choices, wood)
    if not are_spots(thing, choices, wood):
        return False
    places = letter_numbers(choices, wood)
    many = len(choices[2])
    goals = []
    for (node, state), pair in thing:
        if not is_pair(pair, many, many) or pair not in choices[2][state][1][places[node]]:
            return False
        goals.append([(wood[2][node][1], pair[0]), (wood[2][node][2], pair[1])])
    return is_kept_within(choices, [spot for spot, _ in thing], goals, 1)


def is_refusal(choices, wood, thing):
    """Whether a value of any kind is a refusal."""
    check_fit(choices, wood)
    if not are_spots(thing, choices, wood):
        return False
    places = letter_numbers(choices, wood)
    goals = []
    for (node, state), ways in thing:
        pairs = choices[2][state][1][places[node]]
        if not is_row(ways, len(pairs), len(pairs)) or not all(is_number(way, 2) for way in ways):
            return False
        goals.append([(wood[2][node][1 + way], pair[way]) for pair, way in zip(pairs, ways)])
    return is_kept_within(choices, [spot for spot, _ in thing], goals, 0)
