"""Tables: what reads rows of letters and tells ranks, as histories do."""

from allboughs.checks import is_headed, is_number, is_row
from allboughs.errors import BadLetters, BadSteps, BadTable, OtherLetters, TooMany
from allboughs.histories import FIRST, lead, runners_of
from allboughs.steps import are_steps, check_ranks
from allboughs.tableparts import Pairs

MOST_ROWS = 400
MOST_LETTERS = 8
RANKS = 1201
MOST_READ = 400


def is_table_row(thing, letters, rows):
    """Whether it is a row of a table with so many letters and so many rows."""
    if not is_row(thing, letters, letters) or not all(is_row(pair, 2, 2) for pair in thing):
        return False
    return all(is_number(goal, rows) and is_number(rank, RANKS) for goal, rank in thing)


def is_table(thing):
    """Whether a value of any kind is a table."""
    if not is_headed(thing, "table", 2) or not is_row(thing[1], 1, MOST_ROWS):
        return False
    rows = thing[1]
    if not is_row(rows[0], 1, MOST_LETTERS):
        return False
    return all(is_table_row(row, len(rows[0]), len(rows)) for row in rows)


def check_table(table):
    """Raise BadTable for what is no table."""
    if not is_table(table):
        raise BadTable("not a table")


def table(ranks, steps):
    """The table of the histories that are reached by these steps, which are its letters."""
    check_ranks(ranks)
    if not are_steps(steps, len(ranks), 1, MOST_LETTERS):
        raise BadSteps("not a tuple of 1 to 8 steps")
    many = len(runners_of(ranks))
    histories = [FIRST]
    numbers = {FIRST: 0}
    rows = []
    while len(rows) < len(histories):
        row = []
        for step in steps:
            history, rank = lead(ranks, many, histories[len(rows)], step)
            if history not in numbers:
                if len(histories) == MOST_ROWS:
                    raise TooMany(MOST_ROWS)
                numbers[history] = len(histories)
                histories.append(history)
            row.append((numbers[history], rank))
        rows.append(tuple(row))
    return ("table", tuple(rows))


def read(rows, start, letters):
    """The row to which letters lead from a row, and the list of the ranks told."""
    heard = []
    at = start
    for letter in letters:
        at, rank = rows[at][letter]
        heard.append(rank)
    return at, heard


def ranks_told(table, letters):
    """The tuple of the ranks that a table tells for a row of letters."""
    check_table(table)
    rows = table[1]
    if not is_row(letters, 0, MOST_READ) or not all(is_number(letter, len(rows[0])) for letter in letters):
        raise BadLetters("not a tuple of at most 400 letters")
    return tuple(read(rows, 0, letters)[1])


def check_letters(one, other):
    """Raise the errors of functions of two tables."""
    check_table(one)
    check_table(other)
    if len(one[1][0]) != len(other[1][0]):
        raise OtherLetters("tables with unlike numbers of letters")


def part(one, other):
    """None if two tables say alike, otherwise letters ahead and letters again and again for which they do not."""
    check_letters(one, other)
    return Pairs(one[1], other[1]).part()


def greatest_again(rows, ahead, again):
    """The greatest rank that a table tells again and again where it reads ahead, then again for ever."""
    at = read(rows, 0, ahead)[0]
    met = {}
    tops = []
    while at not in met:
        met[at] = len(tops)
        at, heard = read(rows, at, again)
        tops.append(max(heard))
    return max(tops[met[at]:])


def is_part(one, other, thing):
    """Whether a value of any kind is a pair of rows of letters for which two tables say unlike."""
    check_letters(one, other)
    if not is_row(thing, 2, 2) or not isinstance(thing[0], tuple) or not isinstance(thing[1], tuple):
        return False
    ahead, again = thing
    many = len(one[1][0])
    if not again or not all(is_number(letter, many) for letter in ahead + again):
        return False
    return (greatest_again(one[1], ahead, again) + greatest_again(other[1], ahead, again)) % 2 == 1


def met_rows(rows):
    """The rows that can be come to, in the sequence in which they are met."""
    order = [0]
    met = {0: True}
    at = 0
    while at < len(order):
        pairs = rows[order[at]]
        at += 1
        for goal, _ in pairs:
            if goal not in met:
                met[goal] = True
                order.append(goal)
    return order


def renumbered(rows):
    """The rows that can be come to, numbered as they are met; rows may be a list or a dict."""
    order = met_rows(rows)
    numbers = {row: at for at, row in enumerate(order)}
    return tuple([tuple([(numbers[goal], rank) for goal, rank in rows[row]]) for row in order])


def lots_of(rows):
    """The lot of each row, so that rows are of one lot exactly if they tell the same ranks for all letters to come."""
    lots = [0] * len(rows)
    many = 0
    while True:
        numbers = {}
        signs = [tuple([(lots[goal], rank) for goal, rank in row]) for row in rows]
        for sign in signs:
            numbers.setdefault(sign, len(numbers))
        lots = [numbers[sign] for sign in signs]
        if len(numbers) == many:
            return lots
        many = len(numbers)


def merged(table):
    """The table of fewest rows that tells the same ranks for all rows of letters."""
    check_table(table)
    rows = renumbered(table[1])
    lots = lots_of(rows)
    fewer = {}
    for lot, row in zip(lots, rows):
        fewer.setdefault(lot, [(lots[goal], rank) for goal, rank in row])
    # The lot of the first row is the first one, 0.
    return ("table", renumbered(fewer))
