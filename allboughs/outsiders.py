"""Outsiders, which see the letters and take the ways, and wishes that they break."""

from allboughs.checks import is_headed, is_pair, is_row
from allboughs.circles import found_round, has_round
from allboughs.errors import BadOutsider, OtherScope, TooMany
from allboughs.wishes import check_wish
from allboughs.wishgames import Judge, is_letter
from allboughs.woods import is_scope, letters_of

MOST_ROWS = 400
MOST_PAIRS = 400


def is_outsider_row(thing, letters, rows):
    """Whether it is a row of an outsider with so many letters and so many rows."""
    return is_row(thing, letters, letters) and all(is_pair(pair, 2, rows) for pair in thing)


def is_outsider(thing):
    """Whether a value of any kind is an outsider."""
    if not is_headed(thing, "outsider", 3) or not is_scope(thing[1]) or not is_row(thing[2], 1, MOST_ROWS):
        return False
    return all(is_outsider_row(row, 1 << len(thing[1]), len(thing[2])) for row in thing[2])


def check_fit(wish, outsider):
    """Raise the errors of functions of a wish and an outsider."""
    check_wish(wish)
    if not is_outsider(outsider):
        raise BadOutsider("not an outsider")
    if wish[1] != outsider[1]:
        raise OtherScope("a wish and an outsider of unlike scopes")


class Seen:
    """The pairs (row, history) that are met, and the arrivals at them: triples (row, history, rank told), by numbers.

    goals has for each arrival, letter by letter, the arrival behind it; 0 is ahead of all letters.
    """

    def __init__(self, wish, outsider):
        """Meet them at once."""
        self.rows = outsider[2]
        self.judge = Judge(wish)
        start = self.judge.start
        self.pairs = {(0, start): True}
        self.arrivals = [(0, start, 0)]
        self.numbers = {(0, start, 0): 0}
        self.goals = []
        known = {}
        while len(self.goals) < len(self.arrivals):
            row, history, _ = self.arrivals[len(self.goals)]
            if (row, history) not in known:
                known[(row, history)] = self.goals_from(row, history)
            self.goals.append(known[(row, history)])

    def goals_from(self, row, history):
        """The numbers of the arrivals behind a pair, letter by letter."""
        goals = []
        for letter, (way, goal) in enumerate(self.rows[row]):
            told, rank = self.judge.lead_on(history, letter, way)
            if (goal, told) not in self.pairs:
                if len(self.pairs) == MOST_PAIRS:
                    raise TooMany(MOST_PAIRS)
                self.pairs[(goal, told)] = True
            arrival = (goal, told, rank)
            if arrival not in self.numbers:
                self.numbers[arrival] = len(self.arrivals)
                self.arrivals.append(arrival)
            goals.append(self.numbers[arrival])
        return goals

    def good_round(self):
        """A round of arrivals for which all traces are good; None if there is none."""
        return found_round([rank for _, _, rank in self.arrivals], self.goals, 0)

    def letters_to(self, goal):
        """The numbers of the fewest letters that lead from the first arrival to this one."""
        origins = {0: None}
        order = [0]
        at = 0
        while goal not in origins:
            here = order[at]
            at += 1
            for letter, onward in enumerate(self.goals[here]):
                if onward not in origins:
                    origins[onward] = (here, letter)
                    order.append(onward)
        told = []
        while origins[goal] is not None:
            goal, letter = origins[goal]
            told.append(letter)
        return told[::-1]

    def letters_around(self, arrivals):
        """The numbers of the letters that lead around these arrivals, back to the first one."""
        behind = arrivals[1:] + arrivals[:1]
        return [self.goals[one].index(other) for one, other in zip(arrivals, behind)]


def breaks(wish, outsider):
    """Whether an outsider breaks a wish."""
    check_fit(wish, outsider)
    return Seen(wish, outsider).good_round() is None


def spared(wish, outsider):
    """None if an outsider breaks a wish, otherwise letters ahead and again for which all traces are good."""
    check_fit(wish, outsider)
    seen = Seen(wish, outsider)
    found = seen.good_round()
    if found is None:
        return None
    known = letters_of(wish[1])
    ahead = tuple([known[letter] for letter in seen.letters_to(found[0])])
    return (ahead, tuple([known[letter] for letter in seen.letters_around(found)]))


class Sight:
    """The steps of a wish along the ways that an outsider takes from its first row on."""

    def __init__(self, wish, outsider):
        """Begin at the first row."""
        self.rows = outsider[2]
        self.known = {letter: at for at, letter in enumerate(letters_of(wish[1]))}
        self.states = wish[2]
        self.row = 0

    def steps_for(self, letters):
        """The steps, as the goals of all states, while it sees these letters; it goes on with the row behind."""
        found = []
        for letter in letters:
            number = self.known[letter]
            way, self.row = self.rows[self.row][number]
            found.append([goals[number][way] for _, goals in self.states])
        return found


def has_bad_trace(ranks, reached, steps, start):
    """Whether a bad trace begins with one of the reached states, where behind all steps those from start on come."""
    spots = [(0, state) for state in reached]
    numbers = {spot: at for at, spot in enumerate(spots)}
    goals = []
    while len(goals) < len(spots):
        at, state = spots[len(goals)]
        behind = at + 1 if at + 1 < len(steps) else start
        row = []
        for goal in steps[at][state]:
            spot = (behind, goal)
            if spot not in numbers:
                numbers[spot] = len(spots)
                spots.append(spot)
            row.append(numbers[spot])
        goals.append(row)
    return has_round([ranks[state] for _, state in spots], goals, 1)


def are_letters(thing, known):
    """Whether a value of any kind is a tuple of known letters."""
    return isinstance(thing, tuple) and all(is_letter(letter, known) for letter in thing)


def is_spared(wish, outsider, thing):
    """Whether a value of any kind is a pair of letters ahead and again for which all endless traces are good."""
    check_fit(wish, outsider)
    known = letters_of(wish[1])
    if not is_row(thing, 2, 2) or not all(are_letters(letters, known) for letters in thing) or not thing[1]:
        return False
    ahead, again = thing
    sight = Sight(wish, outsider)
    reached = [0]
    for goals in sight.steps_for(ahead):
        reached = sorted({goal for state in reached for goal in goals[state]})
    steps = []
    starts = {}
    while sight.row not in starts:
        starts[sight.row] = len(steps)
        steps.extend(sight.steps_for(again))
    return not has_bad_trace([rank for rank, _ in wish[2]], reached, steps, starts[sight.row])
