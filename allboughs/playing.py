"""The game of a machine and a wood: its standings, who wins it, and why."""

from allboughs.checks import is_row
from allboughs.conditions import is_joint
from allboughs.errors import OtherScope, TooMany
from allboughs.games import is_plan_of, plan_in, settled_game
from allboughs.machines import check_machine
from allboughs.woods import check_wood, letters_of

MOST_STANDINGS = 20000
WORDS = ("yes", "no")


class Board:
    """The standings of a machine and a wood of its scope, as they are met, and the goals of each of them."""

    def __init__(self, machine, wood, most):
        """Meet them at once; most is how many of them there may be, None if as many as it likes."""
        known = {letter: at for at, letter in enumerate(letters_of(machine[1]))}
        self.places = [known[letter] for letter, _, _ in wood[2]]
        self.nodes = wood[2]
        self.states = machine[2]
        self.most = most
        self.standings = []
        self.numbers = {}
        self.conditions = []
        self.goals = []
        self.number(("state", 0, 0), None)
        while len(self.goals) < len(self.standings):
            self.goals.append(self.goals_at(len(self.goals)))

    def number(self, standing, condition):
        """The number of a standing, which is met now if it was not met yet; condition is that of a part."""
        if standing not in self.numbers:
            if len(self.standings) == self.most:
                raise TooMany(self.most)
            self.numbers[standing] = len(self.standings)
            self.standings.append(standing)
            self.conditions.append(condition)
        return self.numbers[standing]

    def spot(self, node, state, path, condition):
        """The number of the spot of this condition, to which the path leads in one of the state."""
        if condition[0] == "go":
            return self.number(("state", self.nodes[node][1 + condition[1]], condition[2]), None)
        if is_joint(condition):
            return self.number(("part", node, state, path), condition)
        return self.number(condition, None)

    def condition_of(self, node, state):
        """The condition of a state for the letter of a node."""
        return self.states[state][1][self.places[node]]

    def goals_at(self, at):
        """The numbers of the goals of a standing."""
        standing = self.standings[at]
        if len(standing) == 1:
            return (at,)
        node = standing[1]
        state = standing[2]
        if standing[0] == "state":
            return (self.spot(node, state, (), self.condition_of(node, state)),)
        path = standing[3]
        first = self.spot(node, state, path + (1,), self.conditions[at][1])
        second = self.spot(node, state, path + (2,), self.conditions[at][2])
        return (first,) if first == second else (first, second)

    def rank(self, at):
        """The rank of a standing in the game."""
        standing = self.standings[at]
        if standing[0] == "state":
            return self.states[standing[2]][0]
        return 1 if standing[0] == "no" else 0

    def side(self, at):
        """The side of a standing in the game: parts that are "both" are the breaker's."""
        return 1 if self.conditions[at] is not None and self.conditions[at][0] == "both" else 0

    def told_game(self):
        """The game with a row for each standing."""
        rows = [(self.side(at), self.rank(at), goals) for at, goals in enumerate(self.goals)]
        return ("game", tuple(rows))


def board_of(machine, wood):
    """The board of a machine and a wood; all errors of functions of the two are raised here."""
    check_machine(machine)
    check_wood(wood)
    if machine[1] != wood[1]:
        raise OtherScope("a machine and a wood of unlike scopes")
    return Board(machine, wood, MOST_STANDINGS)


def standings(machine, wood):
    """The tuple of the standings as a walk first meets them."""
    return tuple(board_of(machine, wood).standings)


def game_of(machine, wood):
    """The game of a machine and a wood, with a row for each standing."""
    return board_of(machine, wood).told_game()


def verdict_in(game):
    """The word and the plan of who wins a game from its row 0."""
    arena = settled_game(game)
    side = arena.winners[0]
    return (WORDS[side], plan_in(arena, side))


def verdict(machine, wood):
    """("yes", a plan of the keeper) or ("no", a plan of the breaker), with row 0 in it."""
    return verdict_in(board_of(machine, wood).told_game())


def is_plan_from_start(game, side, thing):
    """Whether a value of any kind is a plan of this side with row 0 in it."""
    if not is_plan_of(game, thing) or thing[1] != side:
        return False
    return len(thing[2]) > 0 and thing[2][0][0] == 0


def is_verdict_in(game, thing):
    """Whether a value of any kind is a verdict of a game."""
    if not is_row(thing, 2, 2) or not isinstance(thing[0], str) or thing[0] not in WORDS:
        return False
    return is_plan_from_start(game, WORDS.index(thing[0]), thing[1])


def is_verdict(machine, wood, thing):
    """Whether a value of any kind is a verdict."""
    return is_verdict_in(board_of(machine, wood).told_game(), thing)


def lets_by(machine, wood):
    """Whether the machine lets the wood by."""
    return verdict(machine, wood)[0] == "yes"


def won(machine, wood):
    """The pairs (node, state) of the standings of states from which the keeper has a plan."""
    board = board_of(machine, wood)
    winners = settled_game(board.told_game()).winners
    return tuple(sorted([
        (standing[1], standing[2])
        for standing, side in zip(board.standings, winners)
        if side == 0 and standing[0] == "state"
    ]))


def lets_marks_by(machine, wood):
    """Whether a machine lets a wood of its scope by, however many standings there are."""
    return settled_game(Board(machine, wood, None).told_game()).winners[0] == 0
