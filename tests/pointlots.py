"""Points formulas and roads formulas made by chance, and judges of them, written from the words of [60] and [63]."""

import itertools


def some_points(chance, nodes, marks=("x", "y"), bound=(), free=()):
    """A points formula of about so many nodes; bound are the names bound around it, free those that may stand."""
    if nodes <= 1:
        word = chance.choice(("mark", "bare", "yes", "no") + ("point",) * (6 if free else 0))
        if word in ("yes", "no"):
            return (word,)
        return (word, chance.choice(free if word == "point" else marks))
    word = chance.choice(("both", "either", "next", "next", "least", "most"))
    if word in ("both", "either"):
        half = chance.randint(1, nodes - 1)
        parts = [some_points(chance, many, marks, bound, free) for many in (half, max(1, nodes - 1 - half))]
        return (word, *parts)
    if word == "next":
        return (word, chance.randrange(2), some_points(chance, nodes - 1, marks, bound, bound))
    name = chance.choice(("u", "v", "w"))
    others = tuple(one for one in bound if one != name)
    free = tuple(one for one in free if one != name)
    return (word, name, some_points(chance, nodes - 1, marks, others + (name,), free))


def points_hold(points, rows, sets):
    """The set of the nodes at which a points formula holds, told the sets of its points: by rounds."""
    word = points[0]
    nodes = set(range(len(rows)))
    if word in ("yes", "no"):
        return nodes if word == "yes" else set()
    if word in ("mark", "bare"):
        return {node for node in nodes if (points[1] in rows[node][0]) == (word == "mark")}
    if word in ("both", "either"):
        first, second = [points_hold(part, rows, sets) for part in points[1:]]
        return first & second if word == "both" else first | second
    if word == "next":
        below = points_hold(points[2], rows, sets)
        return {node for node in nodes if rows[node][1 + points[1]] in below}
    if word == "point":
        return sets[points[1]]
    told = set() if word == "least" else nodes
    for _ in range(len(rows) + 1):
        told = points_hold(points[2], rows, {**sets, points[1]: told})
    return told


def nodes_by_rounds(points, wood):
    """The ascending tuple of the nodes at which a points formula holds."""
    return tuple(sorted(points_hold(points, wood[2], {})))


def parts(thing):
    """All formulas in a formula, itself too."""
    return [thing] + [one for part in thing[1:] if isinstance(part, tuple) for one in parts(part)]


def depth(thing):
    """How deep a formula is."""
    return 1 + max([depth(part) for part in thing[1:] if isinstance(part, tuple)], default=0)


def some_saying(chance, nodes, names=("x", "y")):
    """A saying of about so many nodes."""
    if nodes <= 1:
        return (chance.choice(("mark", "bare")), chance.choice(names))
    word = chance.choice(("not", "both", "either", "some", "every", "some", "every"))
    if word == "not":
        return (word, some_saying(chance, nodes - 1, names))
    if word in ("both", "either"):
        half = chance.randint(1, nodes - 1)
        return (word, some_saying(chance, half, names), some_saying(chance, max(1, nodes - 1 - half), names))
    return (word, some_telling(chance, nodes - 1, names))


def some_telling(chance, nodes, names=("x", "y")):
    """A telling of about so many nodes."""
    if nodes <= 2:
        return chance.choice((("here", some_saying(chance, 1, names)), ("goes", chance.randrange(2))))
    word = chance.choice(("here", "not", "both", "either", "next", "until", "once", "ever", "until", "once", "ever"))
    if word == "here":
        return (word, some_saying(chance, nodes - 1, names))
    if word in ("not", "next", "once", "ever"):
        return (word, some_telling(chance, nodes - 1, names))
    half = chance.randint(1, nodes - 1)
    return (word, some_telling(chance, half, names), some_telling(chance, max(1, nodes - 1 - half), names))


def some_plain_saying(chance, nodes, names=("x", "y")):
    """A saying of about so many nodes that is plain."""
    if nodes <= 1:
        return (chance.choice(("mark", "bare")), chance.choice(names))
    word = chance.choice(("not", "both", "either", "some", "every", "some", "every"))
    if word == "not":
        return (word, some_plain_saying(chance, nodes - 1, names))
    if word in ("both", "either"):
        half = chance.randint(1, nodes - 1)
        return (word, some_plain_saying(chance, half, names), some_plain_saying(chance, max(1, nodes - 1 - half), names))
    telling = chance.choice(("next", "once", "ever", "until"))
    here = ("here", some_plain_saying(chance, max(1, nodes - 3), names))
    if telling != "until":
        return (word, (telling, here))
    return (word, (telling, ("here", some_plain_saying(chance, max(1, nodes // 2 - 2), names)), here))


def roads_from(rows, node, longest):
    """Roads that go round, as a row of pairs (node, way) ahead, and one around, with no more ways than so many."""
    for lead in range(longest):
        for loop in range(1, longest + 1 - lead):
            for ways in itertools.product((0, 1), repeat=lead + loop):
                nodes = [node]
                for way in ways:
                    nodes.append(rows[nodes[-1]][1 + way])
                if nodes[-1] == nodes[lead]:
                    yield list(zip(nodes, ways)), lead


def told_on(telling, road, start, holds):
    """Whether a telling holds from each place of a road on, which goes on behind its end with the place start."""
    word = telling[0]
    behind = list(range(1, len(road))) + [start]
    if word == "here":
        return [holds(telling[1], node) for node, _ in road]
    if word == "goes":
        return [way == telling[1] for _, way in road]
    inner = [told_on(part, road, start, holds) for part in telling[1:]]
    if word == "not":
        return [not fine for fine in inner[0]]
    if word in ("both", "either"):
        join = all if word == "both" else any
        return [join(pair) for pair in zip(*inner)]
    if word == "next":
        return [inner[0][at] for at in behind]
    told = []
    for at in range(len(road)):
        places = [at]
        for _ in range(2 * len(road)):
            places.append(behind[places[-1]])
        if word == "once":
            told.append(any(inner[0][place] for place in places))
        elif word == "ever":
            told.append(all(inner[0][place] for place in places))
        else:
            met = [many for many, place in enumerate(places) if inner[1][place]]
            told.append(bool(met) and all(inner[0][place] for place in places[:met[0]]))
    return told


def saying_holds(saying, rows, node, longest, known):
    """Whether a saying holds at a node, by all roads that go round with few ways."""
    key = (saying, node)
    if key not in known:
        word = saying[0]

        def holds(one, at):
            return saying_holds(one, rows, at, longest, known)

        if word in ("mark", "bare"):
            known[key] = (saying[1] in rows[node][0]) == (word == "mark")
        elif word == "not":
            known[key] = not holds(saying[1], node)
        elif word in ("both", "either"):
            join = all if word == "both" else any
            known[key] = join([holds(part, node) for part in saying[1:]])
        else:
            join = any if word == "some" else all
            known[key] = join(told_on(saying[1], road, start, holds)[0] for road, start in roads_from(rows, node, longest))
    return known[key]


def nodes_by_roads(roads, wood, longest):
    """The nodes at which a roads formula holds, by all roads that go round with few ways."""
    known = {}
    return tuple(node for node in range(len(wood[2])) if saying_holds(roads, wood[2], node, longest, known))
