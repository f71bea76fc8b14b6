"""Rows told for fewer letters: those for which all of them are equal are looked at once.

A row is a pair (rank, columns), columns a tuple with what it has for each letter.
"""


def folded(rows):
    """The rows with unlike columns alone, and for each letter the place of its column among them."""
    if len(rows[0][1]) == 1:
        return rows, [0]
    letters = range(len(rows[0][1]))
    columns = [[row[1][at] for row in rows] for at in letters]
    firsts = [columns.index(column) for column in columns]
    kept = sorted(set(firsts))
    places = [kept.index(first) for first in firsts]
    if len(kept) == len(columns):
        return rows, places
    return [(rank, tuple([row[at] for at in kept])) for rank, row in rows], places


def unfolded(rows, places):
    """The rows as they are told for all letters."""
    if len(places) == len(rows[0][1]):
        return rows
    return [(rank, tuple([row[place] for place in places])) for rank, row in rows]
