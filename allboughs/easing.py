"""Tables with ranks as small as can be, and chains of loops that show that none are smaller."""

from allboughs.checks import is_pairs
from allboughs.circles import Walk
from allboughs.tables import check_table, met_rows


class Clumps:
    """The clumps of a table: greatest loops of pairs (row, letter) with ranks up to some rank.

    Of each clump known are its rows, its greatest rank, the clumps within it that lie in no other one within it, and
    the least rank that it needs. A clump stands behind the one in which it lies.
    """

    def __init__(self, rows):
        """Find them all at once, among the rows that can be come to."""
        self.rows = rows
        self.held = []
        self.tops = []
        self.inner = []
        self.outermost = self.add_clumps(met_rows(rows), max([rank for row in rows for _, rank in row]))
        while len(self.inner) < len(self.held):
            at = len(self.inner)
            self.inner.append(self.add_clumps(self.held[at], self.tops[at] - 1))
        self.needs = [0] * len(self.held)
        for at in range(len(self.held) - 1, -1, -1):
            highest = max([self.needs[one] for one in self.inner[at]], default=0)
            self.needs[at] = highest + (highest + self.tops[at]) % 2

    def add_clumps(self, inside, most):
        """Add the clumps of these rows, by pairs with ranks up to most; told are their numbers."""
        goals = {row: [goal for goal, rank in self.rows[row] if rank <= most] for row in inside}
        found = []
        for clump in Walk(inside, goals).clumps:
            found.append(len(self.held))
            self.held.append(sorted(clump))
            self.tops.append(max([self.rows[row][letter][1] for row, letter in self.pairs_within(clump, most)]))
        return found

    def pairs_within(self, rows, most):
        """The pairs of these rows, in their sequence, that lead to one of them, with ranks up to most."""
        held = {row: True for row in rows}
        pairs = []
        for row in rows:
            for letter, (goal, rank) in enumerate(self.rows[row]):
                if goal in held and rank <= most:
                    pairs.append((row, letter))
        return pairs

    def loop(self, at):
        """The pairs of a clump, ascending."""
        return tuple(self.pairs_within(self.held[at], self.tops[at]))

    def neediest(self, numbers):
        """The clump of these that needs most."""
        most = max([self.needs[at] for at in numbers])
        return [at for at in numbers if self.needs[at] == most][0]


def chain(table):
    """A chain of loops that needs most."""
    check_table(table)
    clumps = Clumps(table[1])
    at = clumps.neediest(clumps.outermost)
    found = [at]
    while clumps.inner[at]:
        at = clumps.neediest(clumps.inner[at])
        # A clump within another one that needs as much is of the same evenness, and takes its place.
        if clumps.needs[at] == clumps.needs[found[-1]]:
            found.pop()
        found.append(at)
    return tuple([clumps.loop(at) for at in found[::-1]])


def eased(table):
    """A table with the same goals that says alike, with ranks as small as can be."""
    check_table(table)
    clumps = Clumps(table[1])
    ranks = {}
    for at, need in enumerate(clumps.needs):
        for row, letter in clumps.loop(at):
            if table[1][row][letter][1] == clumps.tops[at]:
                ranks[(row, letter)] = need
    rows = []
    for row, leads in enumerate(table[1]):
        rows.append(tuple([(goal, ranks.get((row, letter), 0)) for letter, (goal, _) in enumerate(leads)]))
    return ("table", tuple(rows))


def reached(start, goals):
    """The rows, as a dict, to which one comes from start, itself among them."""
    met = {start: True}
    todo = [start]
    while todo:
        row = todo.pop()
        for goal in goals[row]:
            if goal not in met:
                met[goal] = True
                todo.append(goal)
    return met


def is_loop(rows, known, thing):
    """Whether it is a loop of the rows, where known are those that can be reached."""
    if not is_pairs(thing, len(rows), len(rows[0])) or not thing:
        return False
    ahead = {row: [] for row, _ in thing}
    back = {row: [] for row, _ in thing}
    for row, letter in thing:
        goal = rows[row][letter][0]
        if row not in known or goal not in ahead:
            return False
        ahead[row].append(goal)
        back[goal].append(row)
    start = thing[0][0]
    return len(reached(start, ahead)) == len(ahead) and len(reached(start, back)) == len(ahead)


def is_chain(table, thing):
    """Whether a value of any kind is a chain of a table."""
    check_table(table)
    rows = table[1]
    known = {row: True for row in met_rows(rows)}
    if not isinstance(thing, tuple) or not thing or not all(is_loop(rows, known, loop) for loop in thing):
        return False
    tops = [max([rows[row][letter][1] for row, letter in loop]) for loop in thing]
    if any((tops[at] + tops[at + 1]) % 2 == 0 for at in range(len(tops) - 1)):
        return False
    for smaller, larger in zip(thing, thing[1:]):
        held = {pair: True for pair in larger}
        if not all(pair in held for pair in smaller):
            return False
    return True
