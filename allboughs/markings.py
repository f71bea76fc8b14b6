"""The marks of a name that choices let by on a wood, all of them at once: standings of use, and moves from them.

A standing is of use if some marks are let by from it. A move from it is a letter and the two standings below, both
of use, all told by numbers; 0 is the first standing, and only those are told to which one comes from it by moves.
"""

from allboughs.guides import Standings
from allboughs.hiding import pairs_of_both, twins_of
from allboughs.woods import letters_of, sorted_out, walked


class Marks:
    """The standings of use: for each of them its moves, and one move that wins if it is always taken."""

    def __init__(self, choices, wood, name):
        """Find them at once; the wood has the scope of the choices without the name."""
        self.rows = choices[2]
        self.known = letters_of(choices[1])
        small = letters_of(wood[1])
        twins = twins_of(choices[1], name)
        self.twins = [twins[small.index(letter)] for letter, _, _ in wood[2]]
        self.found = Standings(
            wood[2], [rank for rank, _ in self.rows], lambda node, state: self.pairs_at(node, state)
        )
        self.order = [0] if self.found.game.wins[0] else []
        self.numbers = {0: 0}
        self.moves = []
        while len(self.moves) < len(self.order):
            self.moves.append(self.moves_at(self.order[len(self.moves)]))
        self.picks = [self.pick_at(at) for at in range(len(self.order))]

    def pairs_at(self, node, state):
        """The pairs of states that may be guessed at a node, with the mark or without it."""
        return pairs_of_both(self.rows[state][1], self.twins[node])

    def number(self, spot):
        """The number of a standing of use, which is met now if it was not met yet."""
        if spot not in self.numbers:
            self.numbers[spot] = len(self.order)
            self.order.append(spot)
        return self.numbers[spot]

    def letters_at(self, spot, left, right):
        """The letters, that without the mark ahead, with which a standing may lead to these two."""
        node, state = self.found.spots[spot]
        pair = (self.found.spots[left][1], self.found.spots[right][1])
        return [self.known[at] for at in self.twins[node] if pair in self.rows[state][1][at]]

    def moves_at(self, spot):
        """The moves from a standing of use, which is told by the number that it has among all standings."""
        wins = self.found.game.wins
        moves = []
        for left, right in self.found.options[spot]:
            if wins[left] and wins[right]:
                for letter in self.letters_at(spot, left, right):
                    moves.append((letter, self.number(left), self.number(right)))
        return moves

    def pick_at(self, at):
        """The move that wins if it is always taken."""
        left, right = self.found.game.picked[self.order[at]]
        letter = self.letters_at(self.order[at], left, right)[0]
        return (letter, self.numbers[left], self.numbers[right])


class Trees:
    """Trees with numbers: two of them have one number exactly if they are alike."""

    def __init__(self, rows):
        """Begin with the trees that begin with nodes; of the node at the number of its tree is roots[at]."""
        self.roots = sorted_out(rows, len(rows))
        self.rows = {}
        self.numbers = {}
        for at, move in enumerate(rows):
            self.rows[self.roots[at]] = self.sign(move)
            self.numbers[self.sign(move)] = self.roots[at]

    def sign(self, move):
        """The letter of a move and the numbers of the trees that begin with its two nodes."""
        return (move[0], self.roots[move[1]], self.roots[move[2]])

    def number(self, sign):
        """The number of the tree with this letter and these two trees below."""
        if sign not in self.numbers:
            self.numbers[sign] = len(self.numbers)
            self.rows[self.numbers[sign]] = sign
        return self.numbers[sign]

    def least_rows(self, number):
        """The nodes of the least wood of a tree."""
        return walked(self.rows, number)
