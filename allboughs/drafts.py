"""Machines and choices as the program makes them one from the other: what letters and states share is told once.

A thing is a condition of a machine, or a list of choices. For some letters, one of each kind, there is a column: it
has for each state the number of a thing; letters of one column have the same things for all states.
"""

from allboughs.briefs import mask_in
from allboughs.ranking import ranks_anew


class MachineDraft:
    """A machine all of whose conditions are plain, and may be brief ones; places tells for each letter its column."""

    def __init__(self, scope, ranks, places, columns, conditions):
        """Keep it all."""
        self.scope = scope
        self.ranks = ranks
        self.places = places
        self.columns = columns
        self.conditions = conditions


class ChoicesDraft:
    """Choices; no two of the lists are equal."""

    def __init__(self, scope, ranks, places, columns, lists):
        """Keep it all."""
        self.scope = scope
        self.ranks = ranks
        self.places = places
        self.columns = columns
        self.lists = lists


def unlike(keys):
    """The unlike ones of some keys, as they come, and for each key its place among these."""
    numbers = {}
    places = [numbers.setdefault(key, len(numbers)) for key in keys]
    return list(numbers), places


def refolded(places, columns):
    """The places and columns, of equal columns the first one alone."""
    if len(columns) == 1:
        return places, columns
    firsts = [columns.index(column) for column in columns]
    if firsts == list(range(len(columns))):
        return places, columns
    kept, fewer = unlike(firsts)
    return [fewer[place] for place in places], [columns[at] for at in kept]


def used_things(columns):
    """The numbers of the things that stand in some columns, and the columns with their numbers among these."""
    numbers = {}
    told = [[numbers.setdefault(thing, len(numbers)) for thing in column] for column in columns]
    return list(numbers), told


def walk(columns, ways, many, begun):
    """Those of so many states to which one comes from some, these among them, as a walk first meets them.

    Things are gone through letter by letter, each from left to right.
    """
    order = []
    fresh = [True] * many
    for goal in begun:
        if fresh[goal]:
            fresh[goal] = False
            order.append(goal)
    at = 0
    while at < len(order) < many:
        state = order[at]
        at += 1
        for column in columns:
            for goal in ways[column[state]]:
                if fresh[goal]:
                    fresh[goal] = False
                    order.append(goal)
    return order


def masks_in(lists):
    """For each list the mask of the states in its pairs."""
    told = []
    for pairs in lists:
        mask = 0
        for left, right in pairs:
            mask |= 1 << left | 1 << right
        told.append(mask)
    return told


def masks_of(columns, masks):
    """For each state the mask of the states to which it leads, where masks tells those of each thing."""
    told = [masks[thing] for thing in columns[0]]
    for column in columns[1:]:
        told = [mask | masks[thing] for mask, thing in zip(told, column)]
    return told


def machine_ranks(ranks, columns, conditions):
    """The ranks of the states of a machine told anew."""
    if max(ranks) == 0:
        return ranks
    return ranks_anew(ranks, masks_of(columns, [mask_in(condition) for condition in conditions]))


def choices_ranks(ranks, columns, lists):
    """The ranks of the states of choices told anew."""
    return ranks_anew(ranks, masks_of(columns, masks_in(lists))) if max(ranks) > 0 else ranks
