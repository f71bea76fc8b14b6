"""Hidden names: choices that guess the marks of a name as well, and such marks told."""

from allboughs.choices import MOST_PAIRS, check_choices, choices_draft, tidied_draft, tidy, told_choices
from allboughs.drafts import ChoicesDraft, refolded, unlike
from allboughs.errors import BadName, OtherScope, TooMany
from allboughs.guides import Standings, check_standings
from allboughs.woods import MOST_NODES, check_wood, least_rows, letters_of


def check_name(choices, name):
    """Raise BadName for what is no name of the scope of the choices."""
    if not isinstance(name, str) or name not in choices[1]:
        raise BadName("not a name of the scope")


def scope_without(scope, name):
    """The scope without this name."""
    return tuple([kept for kept in scope if kept != name])


def twins_of(scope, name):
    """For each letter of the scope without the name the numbers of the letters of the scope without and with it."""
    bit = 1 << scope.index(name)
    return [(number, number | bit) for number in range(1 << len(scope)) if not number & bit]


def pairs_of_both(lists, twin):
    """All pairs of two of the lists, ascending."""
    return tuple(sorted(set(lists[twin[0]] + lists[twin[1]])))


def united(one, other):
    """All pairs of two lists, ascending."""
    if not other or one == other:
        return one
    return tuple(sorted(set(one + other))) if one else other


def without_name(draft, name):
    """The draft of choices without a name of their scope: its marks are guessed as well."""
    bit = 1 << draft.scope.index(name)
    bare = [number for number in range(len(draft.places)) if not number & bit]
    kinds, places = unlike([(draft.places[number], draft.places[number | bit]) for number in bare])
    lists = draft.lists
    numbers = {}
    known = {}
    columns = []
    for one, other in kinds:
        column = list(zip(draft.columns[one], draft.columns[other]))
        for pair in column:
            if pair not in known:
                pairs = united(lists[pair[0]], lists[pair[1]])
                known[pair] = numbers.setdefault(pairs, len(numbers))
        columns.append([known[pair] for pair in column])
    lists = list(numbers)
    if max([len(pairs) for pairs in lists]) > MOST_PAIRS:
        raise TooMany(MOST_PAIRS)
    places, columns = refolded(places, columns)
    return ChoicesDraft(scope_without(draft.scope, name), draft.ranks, places, columns, lists)


def hidden_draft(draft, name):
    """The draft of tidied choices without a name, tidied: each state leads where it did, so all ranks stay."""
    return tidied_draft(without_name(draft, name))


def hidden(choices, name):
    """The choices that let a wood by if some marks of the name make it one that these choices let by."""
    check_choices(choices)
    check_name(choices, name)
    return told_choices(tidy(without_name(choices_draft(choices), name)))


def marked_rows(choices, wood, name):
    """The nodes of a wood with marks of the name that is let by, one for each standing; None if there is none."""
    scope = choices[1]
    rows = choices[2]
    known = letters_of(scope)
    small = letters_of(wood[1])
    all_twins = twins_of(scope, name)
    twins = [all_twins[small.index(letter)] for letter, _, _ in wood[2]]
    found = Standings(
        wood[2], [rank for rank, _ in rows], lambda node, state: pairs_of_both(rows[state][1], twins[node])
    )
    if not found.game.wins[0]:
        return None
    order = found.followed()
    numbers = {spot: at for at, spot in enumerate(order)}
    told = []
    for spot in order:
        node, state = found.spots[spot]
        bare, marked_letter = twins[node]
        left, right = found.game.picked[spot]
        number = bare if found.picked_pair(spot) in rows[state][1][bare] else marked_letter
        told.append((known[number], numbers[left], numbers[right]))
    return told


def marked(choices, wood, name):
    """A wood that is let by and is alike to this one but for the marks of the name; None if there is none."""
    check_choices(choices)
    check_wood(wood)
    check_name(choices, name)
    if wood[1] != scope_without(choices[1], name):
        raise OtherScope("the wood is not of the scope without the name")
    check_standings(choices, wood)
    rows = marked_rows(choices, wood, name)
    if rows is None:
        return None
    told = least_rows(rows, MOST_NODES)
    if told is None:
        raise TooMany(MOST_NODES)
    return ("wood", choices[1], told)
