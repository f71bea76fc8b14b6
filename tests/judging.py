"""Judges of what is told as open, written from the words of [42] and [45] and nothing else; and ways to spoil things."""


def has_round(ranks, ways, evenness):
    """Whether there is a round whose greatest rank has this evenness; ways is a dict of lists."""
    for start in ways:
        top = ranks(start)
        if top % 2 != evenness:
            continue
        met, todo = set(), [start]
        while todo:
            for goal in ways[todo.pop()]:
                if ranks(goal) <= top and goal not in met:
                    met.add(goal)
                    todo.append(goal)
        if start in met:
            return True
    return False


def letter_number(scope, letter):
    """The number of a letter."""
    return sum(2 ** at for at, name in enumerate(scope) if name in letter)


def good_guide(choices, wood, thing):
    """Whether a tuple of pairs of the right kinds is a guide."""
    ways = {}
    for (node, state), (left, right) in thing:
        pairs = choices[2][state][1][letter_number(choices[1], wood[2][node][0])]
        if (left, right) not in pairs or (node, state) in ways:
            return False
        ways[(node, state)] = [(wood[2][node][1], left), (wood[2][node][2], right)]
    if (0, 0) not in ways or list(thing) != sorted(thing) or any(goal not in ways for row in ways.values() for goal in row):
        return False
    return not has_round(lambda spot: choices[2][spot[1]][0], ways, 1)


def good_refusal(choices, wood, thing):
    """Whether a tuple of pairs of the right kinds is a refusal."""
    ways = {}
    for (node, state), told in thing:
        pairs = choices[2][state][1][letter_number(choices[1], wood[2][node][0])]
        if len(pairs) != len(told) or (node, state) in ways:
            return False
        ways[(node, state)] = [(wood[2][node][1 + way], pair[way]) for pair, way in zip(pairs, told)]
    if (0, 0) not in ways or list(thing) != sorted(thing) or any(goal not in ways for row in ways.values() for goal in row):
        return False
    return not has_round(lambda spot: choices[2][spot[1]][0], ways, 0)


def good_bar(choices, thing):
    """Whether a tuple of pairs of the right kinds is a bar."""
    ways = {}
    for state, told in thing:
        lists = choices[2][state][1]
        if [len(pairs) for pairs in lists] != [len(row) for row in told] or state in ways:
            return False
        ways[state] = [pair[way] for pairs, row in zip(lists, told) for pair, way in zip(pairs, row)]
    if 0 not in ways or list(thing) != sorted(thing) or any(goal not in ways for row in ways.values() for goal in row):
        return False
    return not has_round(lambda state: choices[2][state][0], ways, 0)


def ill_formed(thing):
    """Things that are of the wrong kind at some part, made of a tuple that is not empty."""
    told = [list(thing), thing + thing, thing[1:] + (None,), (*thing, 0), None, 0, [], "", {}, (thing,), dict(thing)]
    told.extend(wrong_parts(thing))
    return told


def wrong_parts(thing):
    """The thing, a tuple in tuples, with one part of it made a list, a truth value, another number or too long."""
    if isinstance(thing, tuple):
        told = [list(thing), (*thing, 0), None]
        for at, part in enumerate(thing):
            told.extend((*thing[:at], wrong, *thing[at + 1:]) for wrong in wrong_parts(part))
        return told
    if isinstance(thing, str):
        return [thing + "s", thing.upper(), thing.encode(), None, 0, (thing,), ""]
    if thing is None:
        return [0, False, (), "None", (None,)]
    return [bool(thing), float(thing), -1, 401, None, str(thing), (thing,)]
