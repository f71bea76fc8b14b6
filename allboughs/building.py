"""Machines made of machines: the contrary one, both, either, of a wider scope, turned, begun elsewhere."""

from allboughs.briefs import flipped_brief, goes_in, moved_brief, whole
from allboughs.checks import is_number
from allboughs.conditions import MOST_DEEP, MOST_NODES, MOST_STATES, depth_of, is_joint, plainly_joined
from allboughs.drafts import MachineDraft, machine_ranks, refolded, unlike, used_things, walk
from allboughs.errors import BadScope, BadState, OtherScope, TooMany
from allboughs.machines import RANKS, check_machine, drafted, plain_rows, press, told_machine
from allboughs.woods import is_scope


def contrary_draft(draft):
    """The draft of the contrary machine, told that of a machine all of whose states can be come to."""
    ranks = machine_ranks([rank + 1 for rank in draft.ranks], draft.columns, draft.conditions)
    if max(ranks) >= RANKS:
        raise TooMany(RANKS - 1)
    conditions = [flipped_brief(condition) for condition in draft.conditions]
    return MachineDraft(draft.scope, ranks, draft.places, draft.columns, conditions)


def reached_draft(machine):
    """The draft of what is known to be a machine, with plain conditions and the states that can be come to."""
    return drafted(machine[1], plain_rows(machine[2]), 0)


def contrary(machine):
    """The machine that lets by just the woods that this one does not let by."""
    check_machine(machine)
    return told_machine(contrary_draft(reached_draft(machine)))


def check_size(states, conditions, goes):
    """Raise TooMany for so many states, or if one of these conditions, which join parts that are not, is too large.

    As they are plain each of their ends is a go, and goes tells these.
    """
    if states > MOST_STATES:
        raise TooMany(MOST_STATES)
    for goals in goes:
        if 2 * len(goals) - 1 > MOST_NODES:
            raise TooMany(MOST_NODES)
    for condition, goals in zip(conditions, goes):
        # With few goes it cannot be too deep.
        if len(goals) > MOST_DEEP and depth_of(whole(condition)) > MOST_DEEP:
            raise TooMany(MOST_DEEP)


def side_by_side(one, other):
    """The places and columns of a draft with the conditions of one machine and, with numbers behind these, of other."""
    pairs, places = unlike(list(zip(one.places, other.places)))
    shift = len(one.conditions)
    theirs = [[shift + number for number in column] for column in other.columns]
    return places, [one.columns[mine] + theirs[their] for mine, their in pairs]


def joint_number(word, mine, their, conditions, goes):
    """The number of two conditions joined by a word and made plain, which is put behind all others if it is new."""
    told = plainly_joined(word, conditions[mine], conditions[their])
    if len(conditions[mine]) > 1 and len(conditions[their]) > 1:
        conditions.append(told)
        goes.append(goes[mine] + goes[their])
        return len(conditions) - 1
    return mine if told == conditions[mine] else their


def joint_draft(word, one, other):
    """The draft of what two machines of one scope tell, joined by a word; their ranks stay.

    Behind a new first state stand, as they are met, the states of both; no ring has the first one.
    """
    many = len(one.ranks)
    places, columns = side_by_side(one, other)
    conditions = one.conditions + other.conditions
    old = len(conditions)
    goes = goes_in(one.conditions, 0) + goes_in(other.conditions, many)
    kinds, firsts = unlike([(column[0], column[many]) for column in columns])
    begun = []
    for mine, their in kinds:
        if len(plainly_joined(word, conditions[mine], conditions[their])) > 1:
            begun.extend(goes[mine])
            begun.extend(goes[their])
    order = walk(columns, goes, many + len(other.ranks), begun)
    numbers = [0] * (many + len(other.ranks))
    for at, state in enumerate(order):
        numbers[state] = at + 1
    theirs = numbers[many:]
    conditions = [moved_brief(condition, numbers) for condition in one.conditions]
    conditions.extend([moved_brief(condition, theirs) for condition in other.conditions])
    begun = [joint_number(word, mine, their, conditions, goes) for mine, their in kinds]
    check_size(1 + len(order), conditions[old:], goes[old:])
    columns = [[begun[first]] + [column[state] for state in order] for first, column in zip(firsts, columns)]
    used, columns = used_things(columns)
    places, columns = refolded(places, columns)
    ranks = one.ranks + other.ranks
    ranks = [0] + [ranks[state] for state in order]
    return MachineDraft(one.scope, ranks, places, columns, [conditions[at] for at in used])


def joined_anew(word, one, other):
    """Two machines of one scope joined by a word."""
    check_machine(one)
    check_machine(other)
    if one[1] != other[1]:
        raise OtherScope("machines of unlike scopes")
    draft = joint_draft(word, reached_draft(one), reached_draft(other))
    draft.ranks = machine_ranks(draft.ranks, draft.columns, draft.conditions)
    return told_machine(draft)


def meeting(one, other):
    """The machine that lets by just the woods that both let by."""
    return joined_anew("both", one, other)


def joining(one, other):
    """The machine that lets by just the woods that one of them lets by, or both do."""
    return joined_anew("either", one, other)


def wider_places(places, old, scope):
    """The places of the letters of a wider scope, told those of the old one: each is that of the names it had."""
    if old == scope:
        return places
    numbers = [0]
    for name in scope:
        bit = 1 << old.index(name) if name in old else 0
        numbers = numbers + [number | bit for number in numbers]
    return [places[number] for number in numbers]


def widened_draft(draft, scope):
    """The draft of a machine of a wider scope that does not look at the names that are new."""
    places = wider_places(draft.places, draft.scope, scope)
    return MachineDraft(scope, draft.ranks, places, draft.columns, draft.conditions)


def widened(machine, scope):
    """The machine of a wider scope that does not look at the names that are new."""
    check_machine(machine)
    if not is_scope(scope) or not all(name in scope for name in machine[1]):
        raise BadScope("not a scope with all names of the machine")
    places = wider_places(list(range(1 << len(machine[1]))), machine[1], scope)
    return ("machine", scope, tuple([(rank, tuple([row[place] for place in places])) for rank, row in machine[2]]))


def exchanged_goes(condition):
    """The condition with left and right exchanged in its goes."""
    if condition[0] == "go":
        return ("go", 1 - condition[1], condition[2])
    if is_joint(condition):
        return (condition[0], exchanged_goes(condition[1]), exchanged_goes(condition[2]))
    return condition


def turned(machine):
    """The machine with left and right exchanged."""
    check_machine(machine)
    rows = [(rank, tuple([exchanged_goes(condition) for condition in row])) for rank, row in machine[2]]
    return ("machine", machine[1], tuple(rows))


def started(machine, state):
    """The machine that begins with this state."""
    check_machine(machine)
    if not is_number(state, len(machine[2])):
        raise BadState("not a number of a state")
    return told_machine(press(machine[1], machine[2], state))
