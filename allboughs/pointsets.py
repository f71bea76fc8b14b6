"""Where points formulas hold on a wood: sets of nodes, told by masks in which the bit n is set for the node n.

Formulas are told by shapes first: tuples (number, reach, worth, word, what, parts). The number is the same for
formulas that say the same whatever the names of their points are. reach tells how many binders further out a formula
speaks of at most, 0 if of none; worth is the greatest one of least and most in it; what is a mark, a way, or for a
point how many binders further out its own one is.
"""

from allboughs.regions import Arena


class Shapes:
    """Tells the shapes of formulas."""

    def __init__(self):
        """Begin with no shapes."""
        self.numbers = {}

    def shape(self, formula, names):
        """The shape of a formula that stands within binders of these names, the innermost one last."""
        word = formula[0]
        what = None
        parts = ()
        if word in ("mark", "bare"):
            what = formula[1]
        elif word == "point":
            what = names[::-1].index(formula[1]) + 1
        elif word == "next":
            what = formula[1]
            parts = (self.shape(formula[2], names),)
        elif word in ("least", "most"):
            parts = (self.shape(formula[2], names + (formula[1],)),)
        elif word in ("both", "either"):
            parts = (self.shape(formula[1], names), self.shape(formula[2], names))
        reach = max([part[1] for part in parts], default=0)
        worth = max([part[2] for part in parts], default=0)
        if word == "point":
            reach = what
        elif word in ("least", "most"):
            reach = max(0, reach - 1)
            worth = worth + (worth + (1 if word == "least" else 0)) % 2
        sign = (word, what, tuple([part[0] for part in parts]))
        return (self.numbers.setdefault(sign, len(self.numbers)), reach, worth, word, what, parts)


class Web:
    """A formula of least or most that speaks of no binder further out, as vertices that lead to one another.

    Each vertex is a triple (word, what, vertices below); for least and most what is the worth. The word "told" stands
    for a formula that speaks of no binder at all: what is its set. A point is the vertex of what binds it.
    """

    def __init__(self, shape, meaning):
        """Make the vertices at once, the first one of the formula; meaning tells the sets of formulas within it."""
        self.meaning = meaning
        self.numbers = {}
        self.vertices = []
        self.bind(shape, ())

    def vertex(self, shape, around):
        """The number of the vertex of a shape within binders with these numbers, the innermost one last."""
        number, reach, _, word, what, parts = shape
        if word == "point":
            return around[-what]
        key = (number, around[len(around) - reach:])
        if key not in self.numbers:
            if reach == 0:
                self.numbers[key] = self.keep(("told", self.meaning.mask(shape), ()))
            elif word in ("least", "most"):
                self.numbers[key] = self.bind(shape, around)
            else:
                self.numbers[key] = self.keep((word, what, tuple([self.vertex(part, around) for part in parts])))
        return self.numbers[key]

    def keep(self, vertex):
        """Keep a vertex; told is its number."""
        self.vertices.append(vertex)
        return len(self.vertices) - 1

    def bind(self, shape, around):
        """Keep the vertex of a least or most and all that it needs; told is its number."""
        at = self.keep(None)
        _, _, worth, word, _, parts = shape
        self.vertices[at] = (word, worth, (self.vertex(parts[0], around + (at,)),))
        return at


class Meaning:
    """Tells the sets of formulas on a wood."""

    def __init__(self, rows):
        """Begin with the nodes of the wood."""
        self.rows = rows
        self.full = (1 << len(rows)) - 1
        self.masks = {}

    def marked(self, name):
        """The nodes that bear a name."""
        return sum([1 << at for at, (letter, _, _) in enumerate(self.rows) if name in letter])

    def ahead(self, way, mask):
        """The nodes whose child on this way is in the set."""
        return sum([1 << at for at, row in enumerate(self.rows) if mask >> row[1 + way] & 1])

    def joined(self, word, what, masks):
        """The set of a formula with this word, told those of its parts."""
        if word == "next":
            return self.ahead(what, masks[0])
        if word == "both":
            return masks[0] & masks[1]
        return masks[0] | masks[1] if word == "either" else masks[0]

    def mask(self, shape):
        """The set of a shape that speaks of no binder further out."""
        number, _, _, word, what, parts = shape
        if number not in self.masks:
            if word in ("yes", "no"):
                mask = self.full if word == "yes" else 0
            elif word in ("mark", "bare"):
                mask = self.marked(what) if word == "mark" else self.full - self.marked(what)
            elif word in ("least", "most"):
                mask = self.bound(Web(shape, self).vertices)
            else:
                mask = self.joined(word, what, [self.mask(part) for part in parts])
            self.masks[number] = mask
        return self.masks[number]

    def bound(self, vertices):
        """The set of the first one of the vertices of a web."""
        binders = sorted({word for word, _, _ in vertices if word in ("least", "most")})
        if len(binders) == 1:
            return self.by_rounds(vertices, 0 if binders[0] == "least" else self.full)
        return self.by_game(vertices)

    def by_rounds(self, vertices, start):
        """The set of the first vertex, where all of least and most are of one word: from none, or from all."""
        sources = [[] for _ in vertices]
        for at, (_, _, below) in enumerate(vertices):
            for part in below:
                sources[part].append(at)
        masks = [what if word == "told" else start for word, what, _ in vertices]
        todo = list(range(len(vertices)))[::-1]
        waiting = {at: True for at in todo}
        while todo:
            at = todo.pop()
            del waiting[at]
            word, what, below = vertices[at]
            fresh = masks[at] if word == "told" else self.joined(word, what, [masks[part] for part in below])
            if fresh != masks[at]:
                masks[at] = fresh
                for source in sources[at]:
                    if source not in waiting:
                        waiting[source] = True
                        todo.append(source)
        return masks[0]

    def by_game(self, vertices):
        """The set of the first vertex, by the game of all pairs of a vertex and a node."""
        many = len(self.rows)
        yes = many * len(vertices)
        sides = []
        ranks = []
        goals = []
        for at, (word, what, below) in enumerate(vertices):
            sides.extend([1 if word == "both" else 0] * many)
            ranks.extend([what if word in ("least", "most") else 0] * many)
            for node, row in enumerate(self.rows):
                if word == "told":
                    goals.append([yes if what >> node & 1 else yes + 1])
                elif word == "next":
                    goals.append([below[0] * many + row[1 + what]])
                else:
                    goals.append([part * many + node for part in below])
        arena = Arena([*sides, 0, 0], [*ranks, 0, 1], [*goals, [yes], [yes + 1]])
        return sum([1 << node for node in range(many) if arena.winners[node] == 0])


def nodes_in(mask):
    """The ascending tuple of the nodes of a set."""
    return tuple([node for node in range(mask.bit_length()) if mask >> node & 1])
