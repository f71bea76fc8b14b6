"""What roads formulas ask of a place with a letter, as conditions: a road is guessed, and what it owes is promised.

Conditions are told with their nodes and their depths. What is asked of a road is told by trees first: ("yes",),
("no",), ("asked", condition), ("goes", way), ("promise", row), and both and either of two trees.
"""

from allboughs.conditions import NO, YES
from allboughs.pointparts import joined
from allboughs.roadparts import JOINTS

# A road, its promised rows, the one that is watched and whether something is paid are told by one number above 0.
ROWS = 8
WATCHED = 4


def number_of(road, promised, watched, paid):
    """The number of the state in which these rows of a road are promised."""
    mask = sum([1 << at for at in promised])
    return 1 + ((road * ROWS + mask) * WATCHED + watched) * 2 + paid


def told_by(number):
    """The road, the promised rows, the watched one and whether something is paid, by the number of a state."""
    rest, paid = divmod(number - 1, 2)
    rest, watched = divmod(rest, WATCHED)
    road, mask = divmod(rest, ROWS)
    return road, [at for at in range(ROWS) if mask >> at & 1], watched, paid


def tree_of(word, one, other):
    """Two trees joined by a word, without what says nothing."""
    ending, idle = (NO, YES) if word == "both" else (YES, NO)
    if ending in (one, other):
        return ending
    if one == idle:
        return other
    return one if other == idle else (word, one, other)


def is_free(tree):
    """Whether a tree asks nothing of the road."""
    if tree[0] in JOINTS:
        return is_free(tree[1]) and is_free(tree[2])
    return tree[0] not in ("goes", "promise")


def asks(tree):
    """Whether a tree asks something that a letter alone does not settle."""
    if tree[0] in JOINTS:
        return asks(tree[1]) or asks(tree[2])
    return tree[0] == "asked"


def promises(tree):
    """The rows promised in a tree, ascending."""
    if tree[0] in JOINTS:
        return sorted(set(promises(tree[1]) + promises(tree[2])))
    return [tree[1]] if tree[0] == "promise" else []


def settled(tree, way, promised):
    """A tree, where it is known which way is taken and which rows are promised."""
    if tree[0] in JOINTS:
        return tree_of(tree[0], settled(tree[1], way, promised), settled(tree[2], way, promised))
    if tree[0] == "goes":
        return YES if tree[1] == way else NO
    if tree[0] == "promise":
        return YES if tree[1] in promised else NO
    return tree


def parts_of_both(tree):
    """The trees of which a tree is made by both."""
    if tree[0] == "both":
        return parts_of_both(tree[1]) + parts_of_both(tree[2])
    return [tree]


def lots_of(rows):
    """All lots of rows, smaller ones ahead of those in which they lie."""
    lots = [()]
    for row in rows:
        lots = lots + [(*lot, row) for lot in lots]
    return sorted(lots, key=len)


class AtLetter:
    """The conditions of a roads formula for a letter."""

    def __init__(self, roads, letter):
        """Begin with nothing known."""
        self.roads = roads
        self.letter = letter
        self.known = {}

    def of_saying(self, saying):
        """The condition of a saying."""
        word = saying[0]
        if word in JOINTS:
            return joined(word, self.of_saying(saying[1]), self.of_saying(saying[2]))
        if word == "road":
            if saying[1] not in self.known:
                self.known[saying[1]] = AtRoad(self, saying[1], None).at_start()
            return self.known[saying[1]]
        return (YES if (saying[1] in self.letter) == (word == "mark") else NO, 1, 1)

    def of_state(self, number):
        """The condition of a state, told by its number; 0 is that of the whole saying."""
        if number == 0:
            return self.of_saying(self.roads.whole)
        road, promised, watched, _ = told_by(number)
        return AtRoad(self, road, watched).gone_on(promised)


class AtRoad:
    """The conditions of a road for a letter, where one row is watched, or None.

    If the road is contrary so are all conditions: those that stand for both are made by either, and so on.
    """

    def __init__(self, around, number, watched):
        """Begin with what is known around the road."""
        self.around = around
        self.at = number
        self.road = around.roads.roads[number]
        self.watched = watched
        contrary = self.road.is_contrary
        self.fine = (NO if contrary else YES, 1, 1)
        self.wrong = (YES if contrary else NO, 1, 1)
        self.both = "either" if contrary else "both"
        self.either = "both" if contrary else "either"

    def at_start(self):
        """The condition of the road where it begins."""
        return self.for_place(self.tree(self.road.content))

    def gone_on(self, promised):
        """The condition of the road where these rows were promised at the place ahead."""
        tree = YES
        for at in promised:
            tree = tree_of("both", tree, self.tree(self.road.due(at)))
        return self.for_place(tree)

    def tree(self, telling):
        """What a telling asks."""
        word = telling[0]
        if word == "here":
            told = self.around.of_saying(telling[1])
            if told[0] == self.fine[0]:
                return YES
            return NO if told[0] == self.wrong[0] else ("asked", told)
        if word == "goes":
            return telling
        if word in JOINTS:
            return tree_of(word, self.tree(telling[1]), self.tree(telling[2]))
        at = telling[1]
        word, first, second = self.road.rows[at]
        promise = ("promise", at)
        if word == "next":
            return promise
        if word == "once":
            return tree_of("either", self.tree(first), promise)
        if word == "ever":
            return tree_of("both", self.tree(first), promise)
        if word == "until":
            return tree_of("either", self.tree(second), tree_of("both", self.tree(first), promise))
        return tree_of("both", self.tree(second), tree_of("either", self.tree(first), promise))

    def for_place(self, tree):
        """The condition of all that is asked at a place."""
        if tree[0] in JOINTS and not asks(tree):
            return self.by_options(tree)
        return self.with_road(tree)

    def freely(self, tree):
        """The condition of a tree that asks nothing of the road."""
        if tree[0] in JOINTS:
            word = self.both if tree[0] == "both" else self.either
            return joined(word, self.freely(tree[1]), self.freely(tree[2]))
        if tree[0] == "asked":
            return tree[1]
        return self.fine if tree == YES else self.wrong

    def with_road(self, tree):
        """The condition of a tree: that there is a road as it asks."""
        if is_free(tree):
            return self.freely(tree)
        if tree[0] == "goes":
            return self.fine
        if tree[0] == "promise":
            return self.going((0, 1), [tree[1]])
        if tree[0] == "either":
            return joined(self.either, self.with_road(tree[1]), self.with_road(tree[2]))
        parts = parts_of_both(tree)
        told = self.fine
        rest = YES
        for part in parts:
            if is_free(part):
                told = joined(self.both, told, self.freely(part))
            else:
                rest = tree_of("both", rest, part)
        asked = self.by_options(rest) if rest[0] == "both" else self.with_road(rest)
        return joined(self.both, told, asked)

    def going(self, ways, promised):
        """The condition to go on by one of these ways, where these rows are promised now."""
        if not promised:
            return self.fine
        watched, paid = self.road.promise_behind(self.watched, promised)
        number = number_of(self.at, promised, watched, paid)
        told = self.wrong
        for way in ways:
            told = joined(self.either, told, (("go", way, number), 1, 1))
        return told

    def by_options(self, tree):
        """The condition of a tree by what may be promised, lesser lots ahead, and which way may be taken then."""
        options = []
        taken = {0: [], 1: []}
        for lot in lots_of(promises(tree)):
            asked = [self.freely(settled(tree, way, lot)) for way in (0, 1)]
            ways = [way for way in (0, 1) if self.is_new(asked[way], lot, taken[way])]
            for way in ways:
                taken[way].append((asked[way][0], lot))
            if len(ways) == 2 and asked[0][0] == asked[1][0]:
                options.append(joined(self.both, asked[0], self.going(ways, lot)))
            else:
                options.extend([joined(self.both, asked[way], self.going((way,), lot)) for way in ways])
        return self.halved(options)

    def is_new(self, asked, lot, taken):
        """Whether a condition for a lot of promises adds something to what was taken for lesser lots."""
        if asked[0] == self.wrong[0]:
            return False
        for fewer, lesser in taken:
            if (fewer == asked[0] or fewer == self.fine[0]) and all(row in lot for row in lesser):
                return False
        return True

    def halved(self, options):
        """The condition that one of the options holds."""
        if len(options) < 2:
            return options[0] if options else self.wrong
        half = (len(options) + 1) // 2
        return joined(self.either, self.halved(options[:half]), self.halved(options[half:]))
