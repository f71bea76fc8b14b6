"""The game of a machine and a wood: its standings, who wins it, and why."""

from allboughs.checks import is_row
from allboughs.errors import OtherScope, TooMany
from allboughs.games import is_plan_of, plan_in
from allboughs.machines import check_machine
from allboughs.regions import Arena
from allboughs.winning import FEW_ROWS, keeper_wins
from allboughs.woods import check_wood, letters_of

MOST_STANDINGS = 20000
WORDS = ("yes", "no")
PART = -1
YES_CODE = -2
NO_CODE = -3


class Board:
    """The standings of a machine and a wood of its scope, by the numbers with which they are met, and their game.

    conditions has for each standing what is to hold there, places its node, codes the number node * many + q for
    ("state", node, q), PART for a part, YES_CODE and NO_CODE for yes and no.
    """

    def __init__(self, machine, wood, most):
        """Meet them at once; most is how many of them there may be, None if as many as it likes."""
        known = {letter: at for at, letter in enumerate(letters_of(machine[1]))}
        self.nodes = [(known[letter], left, right) for letter, left, right in wood[2]]
        self.states = machine[2]
        self.many = len(machine[2])
        self.most = most
        self.numbers = {}
        self.conditions = []
        self.places = []
        self.codes = []
        self.ranks = []
        self.sides = []
        self.goals = []
        self.state_spot(0, 0)
        while len(self.goals) < len(self.codes):
            at = len(self.goals)
            condition = self.conditions[at]
            node = self.places[at]
            if self.codes[at] >= 0:
                self.goals.append((self.spot(condition, node),))
            elif self.codes[at] == PART:
                first = self.spot(condition[1], node)
                second = self.spot(condition[2], node)
                self.goals.append((first,) if first == second else (first, second))
            else:
                self.goals.append((at,))

    def add(self, condition, node, code, rank, side):
        """Meet a standing; told is its number."""
        number = len(self.codes)
        if number == self.most:
            raise TooMany(self.most)
        self.conditions.append(condition)
        self.places.append(node)
        self.codes.append(code)
        self.ranks.append(rank)
        self.sides.append(side)
        return number

    def state_spot(self, node, state):
        """The number of the standing of a state at a node, which is met now if it was not met yet."""
        code = node * self.many + state
        if code not in self.numbers:
            rank, row = self.states[state]
            self.numbers[code] = self.add(row[self.nodes[node][0]], node, code, rank, 0)
        return self.numbers[code]

    def spot(self, condition, node):
        """The number of the spot of a condition at a node; a part is met now, as it has but one place to come from."""
        word = condition[0]
        if word == "go":
            return self.state_spot(self.nodes[node][1 + condition[1]], condition[2])
        if word == "both":
            return self.add(condition, node, PART, 0, 1)
        if word == "either":
            return self.add(condition, node, PART, 0, 0)
        code = YES_CODE if word == "yes" else NO_CODE
        if code not in self.numbers:
            self.numbers[code] = self.add(condition, 0, code, 1 if code == NO_CODE else 0, 0)
        return self.numbers[code]

    def state_at(self, at):
        """The pair (node, state) of a standing of a state."""
        return divmod(self.codes[at], self.many)

    def standings(self):
        """The standings themselves."""
        told = []
        paths = {}
        for at, code in enumerate(self.codes):
            if code >= 0:
                node, state = self.state_at(at)
                told.append(("state", node, state))
                paths[self.goals[at][0]] = (node, state, ())
            elif code == PART:
                node, state, path = paths[at]
                told.append(("part", node, state, path))
                for turn, goal in enumerate(self.goals[at]):
                    paths[goal] = (node, state, path + (turn + 1,))
            else:
                told.append(self.conditions[at])
        return tuple(told)

    def told_game(self):
        """The game with a row for each standing."""
        return ("game", tuple(zip(self.sides, self.ranks, self.goals)))

    def settled(self):
        """The arena of the game, in which it is known who wins and how."""
        return Arena(self.sides, self.ranks, self.goals)

    def is_kept(self):
        """Whether the keeper wins from the first standing."""
        if len(self.goals) > FEW_ROWS:
            return self.settled().winners[0] == 0
        return keeper_wins(self.sides, self.ranks, self.goals)


def board_of(machine, wood):
    """The board of a machine and a wood; all errors of functions of the two are raised here."""
    check_machine(machine)
    check_wood(wood)
    if machine[1] != wood[1]:
        raise OtherScope("a machine and a wood of unlike scopes")
    return Board(machine, wood, MOST_STANDINGS)


def standings(machine, wood):
    """The tuple of the standings as a walk first meets them."""
    return board_of(machine, wood).standings()


def game_of(machine, wood):
    """The game of a machine and a wood, with a row for each standing."""
    return board_of(machine, wood).told_game()


def verdict_on(board):
    """The word and the plan of who wins on a board from its first standing."""
    arena = board.settled()
    side = arena.winners[0]
    return (WORDS[side], plan_in(arena, side))


def verdict(machine, wood):
    """("yes", a plan of the keeper) or ("no", a plan of the breaker)."""
    return verdict_on(board_of(machine, wood))


def is_plan_from_start(game, side, thing):
    """Whether a value of any kind is a plan of this side with row 0 in it."""
    if not is_plan_of(game, thing) or thing[1] != side:
        return False
    return len(thing[2]) > 0 and thing[2][0][0] == 0


def is_verdict_in(game, thing):
    """Whether a value of any kind is a verdict of a game."""
    if not is_row(thing, 2, 2) or not isinstance(thing[0], str) or thing[0] not in WORDS:
        return False
    return is_plan_from_start(game, WORDS.index(thing[0]), thing[1])


def is_verdict(machine, wood, thing):
    """Whether a value of any kind is a verdict."""
    return is_verdict_in(board_of(machine, wood).told_game(), thing)


def lets_by(machine, wood):
    """Whether the machine lets the wood by."""
    return board_of(machine, wood).is_kept()


def won(machine, wood):
    """The pairs (node, state) of the standings of states from which the keeper has a plan."""
    board = board_of(machine, wood)
    winners = board.settled().winners
    return tuple(sorted([board.state_at(at) for at, code in enumerate(board.codes) if code >= 0 and winners[at] == 0]))


def lets_marks_by(machine, wood):
    """Whether a machine lets a wood of its scope by, however many standings there are."""
    return Board(machine, wood, None).is_kept()
