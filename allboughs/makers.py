"""Makers that keep wishes: whether there are any, the least one, what follows, which letters are allowed."""

from allboughs.checks import is_number
from allboughs.errors import BadLetters, BadMost, TooMany
from allboughs.leastwoods import small_woods
from allboughs.pairgames import Pursuit
from allboughs.wishes import Traces, check_wish, check_wishes
from allboughs.wishgames import WishGame, is_letter
from allboughs.woods import least_rows, letters_of

MOST = 3
MOST_WOODS = 6000
BEGINNINGS = (0, 1, 3, 7, 15)


def settled(wish):
    """("maker", a wood that keeps the wish) or ("outsider", an outsider that breaks it)."""
    check_wish(wish)
    game = WishGame(wish)
    if game.wins[0]:
        return ("maker", game.told_wood(game.maker_nodes(0), 0))
    return ("outsider", game.outsider())


def check_most(wish, most):
    """Raise the errors for no number from 1 to 3, and for too many woods of so many nodes."""
    if not is_number(most, MOST + 1) or most == 0:
        raise BadMost("not a number from 1 to 3")
    woods = 1
    for _ in range(most):
        woods *= (1 << len(wish[1])) * most * most
    if woods > MOST_WOODS:
        raise TooMany(MOST_WOODS)


def first_numbered(rows):
    """The first one, as a tuple, of the rows of nodes that are these but for the numbers of nodes other than 0."""
    if len(rows) < MOST:
        return rows
    numbers = (0, 2, 1)
    other = tuple([(rows[at][0], numbers[rows[at][1]], numbers[rows[at][2]]) for at in numbers])
    return min(rows, other)


def least_maker(wish, most):
    """The wood of fewest nodes, of these the first one, that keeps a wish; None if there is none of so few nodes."""
    check_wish(wish)
    check_most(wish, most)
    for many in range(1, most + 1):
        # What is alike to a wood of fewer nodes would have been found with it.
        woods = [wood[2] for wood in small_woods(wish[1], many) if least_rows(wood[2], many) == wood[2]]
        for rows in sorted([first_numbered(rows) for rows in woods]):
            wood = ("wood", wish[1], rows)
            if Traces(wish, wood).bad_round() is None:
                return wood
    return None


def follows(one, other):
    """None if each wood that keeps the one wish keeps the other one, otherwise a wood that keeps the one alone."""
    check_wishes(one, other)
    game = WishGame(one)
    if not game.wins[0]:
        return None
    pursuit = Pursuit(game, other[2])
    road = pursuit.found_road()
    if road is None:
        return None
    lead, loop = road
    steps = lead + loop
    nodes = game.maker_nodes(len(steps))
    for at, (history, letter, way) in enumerate(steps):
        onward = at + 1 if at + 1 < len(steps) else len(lead)
        aside = game.onward[history][letter][1 - way][0] + len(steps)
        nodes[at] = (game.known[letter], aside, onward) if way else (game.known[letter], onward, aside)
    return game.told_wood(nodes, 0)


def allowed(wish):
    """For each kept history that is met, letter by letter, the indexes of the ones behind; None if not allowed."""
    check_wish(wish)
    game = WishGame(wish)
    order = [0] if game.wins[0] else []
    numbers = {0: 0}
    rows = []
    while len(rows) < len(order):
        at = order[len(rows)]
        row = []
        for letter in range(len(game.known)):
            if not game.is_allowed(at, letter):
                row.append(None)
                continue
            for goal, _ in game.onward[at][letter]:
                if goal not in numbers:
                    numbers[goal] = len(order)
                    order.append(goal)
            (left, _), (right, _) = game.onward[at][letter]
            row.append((numbers[left], numbers[right]))
        rows.append(tuple(row))
    return tuple(rows)


def check_letters(wish, letters):
    """Raise BadLetters for what does not tell the letters of all places of less than so many ways."""
    known = letters_of(wish[1])
    if not isinstance(letters, tuple) or len(letters) not in BEGINNINGS:
        raise BadLetters("not a tuple of 0, 1, 3, 7 or 15 items")
    if not all(is_letter(letter, known) for letter in letters):
        raise BadLetters("not letters of the scope")


def begun(wish, letters):
    """A wood that keeps the wish and has these letters at its first places; None if there is none."""
    check_wish(wish)
    check_letters(wish, letters)
    game = WishGame(wish)
    if not game.wins[0]:
        return None
    many = len(letters)
    nodes = game.maker_nodes(many)
    histories = [0]
    for at, letter in enumerate(letters):
        number = game.known.index(letter)
        if not game.is_allowed(histories[at], number):
            return None
        goals = [goal for goal, _ in game.onward[histories[at]][number]]
        histories.extend(goals)
        # The places below the one with this number stand behind it, two for each place ahead.
        below = [2 * at + 1 + way if 2 * at + 1 < many else many + goals[way] for way in (0, 1)]
        nodes[at] = (letter, below[0], below[1])
    return game.told_wood(nodes, 0 if letters else many)
