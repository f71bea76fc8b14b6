"""Where roads formulas hold on a wood: sets of nodes, told by masks in which the bit n is set for the node n.

For some and every each road is gone with a guess: which of the tellings of next, until, once and ever in the telling
hold from each place on. A guess is told by a mask, too.
"""

from allboughs.circles import Walk

LASTING = ("next", "until", "once", "ever")


class Guesses:
    """A telling, and what it says at a place, told the sayings that hold there, the guess, and the way that is taken.

    Its parts that last are numbered; in the others ("later", number) stands for them, and ("here", number) for the
    sayings, whose sets are sets. rows has the parts that last, as triples (word, first, second).
    """

    def __init__(self, telling, meaning):
        """Number the parts; meaning tells the sets of sayings."""
        self.meaning = meaning
        self.sets = []
        self.rows = []
        self.whole = self.numbered(telling)
        self.known = {}

    def numbered(self, telling):
        """A telling with numbers for what lasts and for sayings."""
        word = telling[0]
        if word == "here":
            self.sets.append(self.meaning.mask(telling[1]))
            return ("here", len(self.sets) - 1)
        if word == "goes":
            return telling
        parts = [self.numbered(part) for part in telling[1:]]
        if word not in LASTING:
            return (word, *parts)
        self.rows.append((word, parts[0], parts[-1]))
        return ("later", len(self.rows) - 1)

    def here_at(self, node):
        """A mask of the sayings that hold at a node."""
        return sum([1 << at for at, mask in enumerate(self.sets) if mask >> node & 1])

    def says(self, telling, here, guess, way):
        """Whether a telling holds where a road begins, if the guess is right."""
        word = telling[0]
        if word == "here":
            return here >> telling[1] & 1 == 1
        if word == "later":
            return guess >> telling[1] & 1 == 1
        if word == "goes":
            return way == telling[1]
        if word == "not":
            return not self.says(telling[1], here, guess, way)
        first = self.says(telling[1], here, guess, way)
        if first == (word == "either"):
            return first
        return self.says(telling[2], here, guess, way)

    def looked_at(self, here, guess, way):
        """What is known of a place: a tuple (holds, cares, wants, tells, pays).

        holds tells whether the whole telling does. The place behind has to tell what is wanted of the bits cared for.
        pays has a bit for each part that owes nothing to later places for ever. None if the guess is wrong here.
        """
        cares = 0
        wants = 0
        tells = 0
        pays = 0
        for at, (word, first, second) in enumerate(self.rows):
            guessed = guess >> at & 1
            one = self.says(first, here, guess, way)
            other = self.says(second, here, guess, way)
            now = None
            if word == "until" and (other or not one):
                now = 1 if other else 0
            elif word == "once" and one or word == "ever" and not one:
                now = 1 if one else 0
            if now is not None and now != guessed:
                return None
            if now is None:
                cares |= 1 << at
                wants |= guessed << at
            told = guessed if word != "next" else (1 if one else 0)
            tells |= told << at
            if word == "next" or now is not None or guessed == (1 if word == "ever" else 0):
                pays |= 1 << at
        return (self.says(self.whole, here, guess, way), cares, wants, tells, pays)

    def view(self, here, guess, way):
        """What is known of a place; places that are the same for it are looked at but once."""
        key = (here, guess, way)
        if key not in self.known:
            self.known[key] = self.looked_at(here, guess, way)
        return self.known[key]


class RoadSets:
    """Tells the sets of sayings on a wood."""

    def __init__(self, rows):
        """Begin with the nodes of the wood."""
        self.rows = rows
        self.full = (1 << len(rows)) - 1

    def mask(self, saying):
        """The set of a saying."""
        word = saying[0]
        if word in ("mark", "bare"):
            marked = sum([1 << at for at, (letter, _, _) in enumerate(self.rows) if saying[1] in letter])
            return marked if word == "mark" else self.full - marked
        if word == "not":
            return self.full - self.mask(saying[1])
        if word == "both":
            return self.mask(saying[1]) & self.mask(saying[2])
        if word == "either":
            return self.mask(saying[1]) | self.mask(saying[2])
        if word == "some":
            return self.with_road(saying[1])
        return self.full - self.with_road(("not", saying[1]))

    def with_road(self, telling):
        """The nodes at which a road begins on which a telling holds."""
        guesses = Guesses(telling, self)
        spots = self.spots_for(guesses)
        goals = self.goals_of(spots)
        fine = self.leading_on(goals, [view[4] for _, _, view in spots], (1 << len(guesses.rows)) - 1)
        mask = 0
        for at, (node, _, view) in enumerate(spots):
            if view[0] and at in fine:
                mask |= 1 << node
        return mask

    def spots_for(self, guesses):
        """All triples (node, way, view) with a guess that is not wrong at once."""
        spots = []
        for node in range(len(self.rows)):
            here = guesses.here_at(node)
            for guess in range(1 << len(guesses.rows)):
                for way in (0, 1):
                    view = guesses.view(here, guess, way)
                    if view is not None:
                        spots.append((node, way, view))
        return spots

    def goals_of(self, spots):
        """For each spot the numbers of the spots that can stand behind it."""
        telling = [{} for _ in self.rows]
        for at, (node, _, view) in enumerate(spots):
            telling[node].setdefault(view[3], []).append(at)
        goals = []
        for node, way, view in spots:
            found = []
            for tells, numbers in telling[self.rows[node][1 + way]].items():
                if tells & view[1] == view[2]:
                    found.extend(numbers)
            goals.append(found)
        return goals

    def leading_on(self, goals, pays, all_paid):
        """The spots, as a dict, from which one comes to a clump in which all that is owed is paid."""
        fine = {}
        for clump in Walk(list(range(len(goals))), goals).clumps:
            paid = 0
            for at in clump:
                paid |= pays[at]
            if paid == all_paid:
                for at in clump:
                    fine[at] = True
        sources = [[] for _ in goals]
        for at, row in enumerate(goals):
            for goal in row:
                sources[goal].append(at)
        todo = list(fine)
        while todo:
            goal = todo.pop()
            for source in sources[goal]:
                if source not in fine:
                    fine[source] = True
                    todo.append(source)
        return fine
