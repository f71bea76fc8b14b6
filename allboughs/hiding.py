"""Hidden names: choices that guess the marks of a name as well, and such marks told."""

from allboughs.choices import MOST_PAIRS, check_choices, tidy, tidy_ranked
from allboughs.errors import BadName, OtherScope, TooMany
from allboughs.guides import Standings, check_standings
from allboughs.woods import MOST_NODES, check_wood, least_rows, letters_of


def check_name(choices, name):
    """Raise BadName for what is no name of the scope of the choices."""
    if not isinstance(name, str) or name not in choices[1]:
        raise BadName("not a name of the scope")


def scope_without(scope, name):
    """The scope without this name."""
    return tuple([kept for kept in scope if kept != name])


def twins_of(scope, name):
    """For each letter of the scope without the name the numbers of the letters of the scope without and with it."""
    bit = 1 << scope.index(name)
    return [(number, number | bit) for number in range(1 << len(scope)) if not number & bit]


def pairs_of_both(lists, twin):
    """All pairs of two of the lists, ascending."""
    return tuple(sorted(set(lists[twin[0]] + lists[twin[1]])))


def hidden_rows(choices, name):
    """The states of what is known to be choices without a name of their scope: its marks are guessed as well."""
    twins = twins_of(choices[1], name)
    rows = [(rank, tuple([pairs_of_both(lists, twin) for twin in twins])) for rank, lists in choices[2]]
    if any(len(pairs) > MOST_PAIRS for _, lists in rows for pairs in lists):
        raise TooMany(MOST_PAIRS)
    return rows


def hidden_of(choices, name):
    """The same as hidden for what is known to be tidied choices: each state leads where it did, so all ranks stay."""
    return tidy_ranked(scope_without(choices[1], name), hidden_rows(choices, name))


def hidden(choices, name):
    """The choices that let a wood by if some marks of the name make it one that these choices let by."""
    check_choices(choices)
    check_name(choices, name)
    return tidy(scope_without(choices[1], name), hidden_rows(choices, name))


def marked_rows(choices, wood, name):
    """The nodes of a wood with marks of the name that is let by, one for each standing; None if there is none."""
    scope = choices[1]
    rows = choices[2]
    known = letters_of(scope)
    small = letters_of(wood[1])
    all_twins = twins_of(scope, name)
    twins = [all_twins[small.index(letter)] for letter, _, _ in wood[2]]
    found = Standings(
        wood[2], [rank for rank, _ in rows], lambda node, state: pairs_of_both(rows[state][1], twins[node])
    )
    if not found.game.wins[0]:
        return None
    order = found.followed()
    numbers = {spot: at for at, spot in enumerate(order)}
    told = []
    for spot in order:
        node, state = found.spots[spot]
        bare, marked_letter = twins[node]
        left, right = found.game.picked[spot]
        number = bare if found.picked_pair(spot) in rows[state][1][bare] else marked_letter
        told.append((known[number], numbers[left], numbers[right]))
    return told


def marked(choices, wood, name):
    """A wood that is let by and is alike to this one but for the marks of the name; None if there is none."""
    check_choices(choices)
    check_wood(wood)
    check_name(choices, name)
    if wood[1] != scope_without(choices[1], name):
        raise OtherScope("the wood is not of the scope without the name")
    check_standings(choices, wood)
    rows = marked_rows(choices, wood, name)
    if rows is None:
        return None
    told = least_rows(rows, MOST_NODES)
    if told is None:
        raise TooMany(MOST_NODES)
    return ("wood", choices[1], told)
