"""The parts of points formulas as they stand there, and what opening them says of a place with a letter."""

from allboughs.conditions import NO, YES
from allboughs.points import BINDERS, JOINTS

# Numbers of parts are below this, so that a part and a worth can be told by one number.
PARTS = 4000


class Parts:
    """The parts of a points formula, by numbers; 0 is the whole.

    Each one is told as (word, what, parts): what is a mark or a way, and for a point the number of what binds it.
    """

    def __init__(self, points):
        """Number them at once."""
        self.rows = []
        self.worths = []
        self.add(points, {})

    def add(self, part, bound):
        """Add a part and all that is in it, told the numbers of the binders around it; told is its number."""
        at = len(self.rows)
        word = part[0]
        self.rows.append(None)
        self.worths.append(0)
        if word in JOINTS:
            one = self.add(part[1], bound)
            other = self.add(part[2], bound)
            self.rows[at] = (word, None, (one, other))
            self.worths[at] = max(self.worths[one], self.worths[other])
        elif word in BINDERS:
            below = self.add(part[2], {**bound, part[1]: at})
            self.rows[at] = (word, None, (below,))
            worth = self.worths[below]
            self.worths[at] = worth + (worth + (1 if word == "least" else 0)) % 2
        elif word == "next":
            below = self.add(part[2], bound)
            self.rows[at] = (word, part[1], (below,))
            self.worths[at] = self.worths[below]
        else:
            self.rows[at] = (word, bound[part[1]] if word == "point" else part[-1], ())
        return at

    def behind(self, at, worth):
        """Where opening a point comes to: the part that its binder binds, and the greatest worth passed by now."""
        binder = self.rows[at][1]
        return (self.rows[binder][2][0], max(worth, self.worths[binder]))

    def child_state(self, at, worth):
        """The state (part, worth) that holds at a child if this part of a next does."""
        return self.behind(at, worth) if self.rows[at][0] == "point" else (at, worth)


def joined(word, one, other):
    """The plain condition of two plain ones, all of them with their nodes and their depths."""
    ending, idle = (NO, YES) if word == "both" else (YES, NO)
    for here, beside in ((one, other), (other, one)):
        if here[0] == ending:
            return here
        if here[0] == idle:
            return beside
    return ((word, one[0], other[0]), 1 + one[1] + other[1], 1 + max(one[2], other[2]))


class Opening:
    """The conditions of parts for one letter, made plain, with goes to pairs (part, worth) told by one number.

    Each of them is known with its nodes and its depth, as it may be far larger than a condition of a machine.
    """

    def __init__(self, parts, letter):
        """Begin with nothing opened."""
        self.parts = parts
        self.letter = letter
        self.known = {}
        self.missing = []

    def condition_of(self, at):
        """The condition of a part, how many nodes it has, and how deep it is."""
        todo = [] if (at, 0) in self.known else [(at, 0)]
        while todo:
            self.missing = []
            told = self.opened(todo[-1][0], todo[-1][1])
            if self.missing:
                todo.extend(self.missing)
            else:
                self.known[todo.pop()] = told
        return self.known[(at, 0)]

    def opened(self, at, worth):
        """The same, if what opening its points comes to is known; otherwise that is missing, and none is told."""
        word, what, below = self.parts.rows[at]
        if word in JOINTS:
            one = self.opened(below[0], worth)
            other = self.opened(below[1], worth)
            return one if self.missing else joined(word, one, other)
        if word in BINDERS:
            pair = (below[0], worth)
            if pair not in self.known:
                told = self.opened(below[0], worth)
                if self.missing:
                    return None
                self.known[pair] = told
            return self.known[pair]
        if word == "next":
            part, passed = self.parts.child_state(below[0], worth)
            return (("go", what, passed * PARTS + part), 1, 1)
        if word == "point":
            behind = self.parts.behind(at, worth)
            if behind not in self.known:
                self.missing.append(behind)
                return None
            return self.known[behind]
        fine = word == "yes" or word in ("mark", "bare") and (what in self.letter) == (word == "mark")
        return (YES if fine else NO, 1, 1)
