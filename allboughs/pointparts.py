"""The parts of points formulas as they stand there, and what opening them says of a place with a letter."""

from allboughs.conditions import NO, YES
from allboughs.points import BINDERS, JOINTS

# Numbers of parts are below this, so that a part and a worth can be told by one number.
PARTS = 4000


class Parts:
    """The parts of a points formula, by numbers; 0 is the whole.

    Each one is told as (word, what, parts): what is a mark or a way, and for a point the number of what binds it.
    """

    def __init__(self, points):
        """Number them at once."""
        self.rows = []
        self.worths = []
        self.add(points, {})

    def add(self, part, bound):
        """Add a part and all that is in it, told the numbers of the binders around it; told is its number."""
        at = len(self.rows)
        word = part[0]
        self.rows.append(None)
        self.worths.append(0)
        inner = {**bound, part[1]: at} if word in BINDERS else bound
        if word in JOINTS:
            first = self.add(part[1], inner)
            below = (first, self.add(part[2], inner))
        elif word == "next" or word in BINDERS:
            below = (self.add(part[2], inner),)
        else:
            below = ()
        what = bound[part[1]] if word == "point" else part[-1] if not below else part[1]
        self.rows[at] = (word, what, below)
        worth = max([self.worths[one] for one in below], default=0)
        self.worths[at] = worth + (worth + (1 if word == "least" else 0)) % 2 if word in BINDERS else worth
        return at

    def behind(self, at, worth):
        """Where opening a point comes to: the part that its binder binds, and the greatest worth passed by now."""
        binder = self.rows[at][1]
        return (self.rows[binder][2][0], max(worth, self.worths[binder]))

    def opened(self, at, worth):
        """The pairs (part, worth passed by now) to which opening a part comes at once."""
        word, _, below = self.rows[at]
        if word == "point":
            return [self.behind(at, worth)]
        return [] if word == "next" else [(part, worth) for part in below]

    def child_state(self, at, worth):
        """The state (part, worth) that holds at a child if this part of a next does."""
        return self.behind(at, worth) if self.rows[at][0] == "point" else (at, worth)


def joined(word, one, other):
    """The plain condition of two plain ones, all of them with their nodes and their depths."""
    ending, idle = (NO, YES) if word == "both" else (YES, NO)
    for here, beside in ((one, other), (other, one)):
        if here[0] == ending:
            return here
        if here[0] == idle:
            return beside
    return ((word, one[0], other[0]), 1 + one[1] + other[1], 1 + max(one[2], other[2]))


class Opening:
    """The conditions of parts for one letter, made plain, with goes to pairs (part, worth) told by one number.

    Each of them is known with its nodes and its depth, as it may be far larger than a condition of a machine.
    """

    def __init__(self, parts, letter):
        """Begin with nothing opened."""
        self.parts = parts
        self.letter = letter
        self.known = {}

    def condition_of(self, at):
        """The condition of a part, how many nodes it has, and how deep it is."""
        todo = [(at, 0)]
        while todo:
            pair = todo[-1]
            needed = [one for one in self.parts.opened(pair[0], pair[1]) if one not in self.known]
            todo.extend(needed)
            if not needed:
                self.known[pair] = self.opened_one(pair)
                todo.pop()
        return self.known[(at, 0)]

    def opened_one(self, pair):
        """The condition of a part, its nodes and its depth, if those to which it opens are known."""
        at, worth = pair
        word, what, below = self.parts.rows[at]
        inner = [self.known[one] for one in self.parts.opened(at, worth)]
        if word in JOINTS:
            return joined(word, inner[0], inner[1])
        if inner:
            return inner[0]
        if word == "next":
            part, passed = self.parts.child_state(below[0], worth)
            return (("go", what, passed * PARTS + part), 1, 1)
        fine = word == "yes" or word in ("mark", "bare") and (what in self.letter) == (word == "mark")
        return (YES if fine else NO, 1, 1)
