"""Point [35], and what the example of part 5 says of it."""

import itertools

from allboughs.errors import BadLetters, BadRanks, BadSteps, BadTable, OtherLetters
from allboughs.histories import first, led, told
from allboughs.tables import is_part, is_table, merged, part, ranks_told, table
from tests.judging import wrong_parts
from tests.support import Alike, Case, dice, junk_but, some_step

A, B = ((0, 0), (0, 1), (1, 1)), ((0, 1), (1, 0))
T = ("table", (((1, 0), (2, 0)), ((1, 1), (1, 2)), ((2, 0), (3, 0)), ((1, 1), (2, 2))))


def some_table(chance, rows, letters, ranks):
    """A table of so many rows."""
    return ("table", tuple(tuple((chance.randrange(rows), chance.randrange(ranks)) for _ in range(letters)) for _ in range(rows)))


def table_by_the_words(ranks, steps):
    """The table of the histories that are reached by steps, in the sequence in which they are met."""
    histories, rows = [first(ranks)], []
    for history in histories:
        row = []
        for step in steps:
            behind, rank = led(ranks, history, step)
            if behind not in histories:
                histories.append(behind)
            row.append((histories.index(behind), rank))
        rows.append(tuple(row))
    return ("table", tuple(rows))


def greatest_again(thing, ahead, again):
    """The greatest rank that is told again and again, found by reading for long enough."""
    row, heard = 0, []
    for letter in ahead + again * (len(thing[1]) + 1):
        row, _ = thing[1][row][letter]
    for letter in again * (len(thing[1]) + 1):
        row, rank = thing[1][row][letter]
        heard.append(rank)
    return max(heard)


def unlike(one, other, ahead, again):
    """Whether two tables say unlike of a row of letters that goes round."""
    return greatest_again(one, ahead, again) % 2 != greatest_again(other, ahead, again) % 2


def short_rounds(letters, ahead, again):
    """All rounds of letters of at most so many of them."""
    for before in range(ahead + 1):
        for after in range(1, again + 1):
            for one in itertools.product(range(letters), repeat=before):
                for other in itertools.product(range(letters), repeat=after):
                    yield one, other


class IsTable(Case):
    def test_tables(self):
        for thing in (T, ("table", (((0, 0),),)), ("table", (((0, 1200),) * 8,)), ("table", (((0, 3), (1, 2)), ((1, 1), (0, 0))))):
            self.assertIs(is_table(thing=thing), True)

    def test_no_tables(self):
        self.none_of(is_table, junk_but())
        wrong = wrong_parts(("table", (((0, 900), (1, 900)), ((1, 900), (0, 900)))))
        self.none_of(is_table, [thing for thing in wrong if ", 401)" not in repr(thing)])
        self.none_of(is_table, (
            ("table", ()), ("table", ((),)), ("table", (((0, 0),), ((0, 0), (0, 0)))), ("table", (((0, 0),), ())), ("table", (((1, 0),),)),
            ("Table", (((0, 0),),)), ("table", (((0, 0, 0),),)), ("table", (((0,),),)), ("table", (((),),)), ("table", [((0, 0),)]), ("table", (((0, 1201),),)), ("table", (((0, -1),),)),
            ("table", (((Alike(), 0),),)), ("table", (((0, Alike()),),)), ("table", (Alike(),)), ("table", (((-1, 0),),)), ("table", (0,)),
        ))

    def test_limits(self):
        for rows, letters, rank, fine in ((400, 8, 1200, True), (401, 1, 0, False), (1, 9, 0, False), (1, 1, 1201, False), (400, 1, 0, True)):
            self.assertIs(is_table(("table", (((0, rank),) * letters,) * rows)), fine)


class Table(Case):
    def test_by_hand(self):
        self.assertEqual(table(ranks=(1, 2), steps=(A, B)), T)
        self.assertEqual(table((0,), (((0, 0),),)), ("table", (((0, 0),),)))
        self.assertEqual(table((0,), ((), ((0, 0),))), ("table", (((1, 0), (0, 0)), ((1, 0), (1, 0)))))

    def test_what_a_table_tells_is_what_the_history_tells(self):
        chance = dice(310)
        for _ in range(120):
            ranks = tuple(chance.randrange(4) for _ in range(chance.randint(1, 3)))
            steps = tuple(some_step(chance, len(ranks), 0.5) for _ in range(chance.randint(1, 3)))
            made = table_by_the_words(ranks, steps)
            if len(made[1]) > 400:
                self.many(400, table, ranks, steps)
                continue
            self.assertEqual(table(ranks, steps), made)
            self.assertTrue(is_table(made))
            for _ in range(5):
                letters = tuple(chance.randrange(len(steps)) for _ in range(chance.randint(0, 30)))
                self.assertEqual(ranks_told(made, letters), told(ranks, tuple(steps[letter] for letter in letters))[1])

    def test_too_many(self):
        ranks = (1, 3, 5, 7, 0, 2)
        steps = tuple(some_step(dice(seed), 6, 0.35) for seed in range(8))
        self.many(400, table, ranks, steps)
        self.fails(BadSteps, table, ranks, steps + steps[:1])

    def test_8_steps(self):
        steps = tuple(((0, 0),) if at % 2 else () for at in range(8))
        self.assertEqual(len(table((0,), steps)[1][0]), 8)
        self.fails(BadSteps, table, (0,), steps + steps[:1])

    def test_errors(self):
        for thing in junk_but((0,), (0, 0)):
            self.fails(BadRanks, table, thing, None)
        for thing in junk_but(((),), ((0, 0),)) + [(), ((0, 0),), [()], (None,), ((0, 0), (0, 1)), (((0, 2),),), (((0, 1), (0, 0)),)]:
            self.fails(BadSteps, table, (1, 2), thing)


class RanksTold(Case):
    def test_by_hand(self):
        self.assertEqual(ranks_told(table=T, letters=(0, 0, 1, 0)), (0, 1, 2, 1))
        self.assertEqual(ranks_told(T, (1, 1, 1, 1)), (0, 0, 2, 0))
        self.assertEqual(ranks_told(T, ()), ())

    def test_400_letters(self):
        self.assertEqual(ranks_told(T, (0,) * 400), (0,) + (1,) * 399)
        self.fails(BadLetters, ranks_told, T, (0,) * 401)

    def test_errors(self):
        for thing in junk_but():
            self.fails(BadTable, ranks_told, thing, None)
        for thing in junk_but((), (0,), (0, 0)) + [[0], (2,), (0, -1), (True,), "0", 0, (0, None)]:
            self.fails(BadLetters, ranks_told, T, thing)


class Part(Case):
    def test_by_hand(self):
        self.assertIsNone(part(one=T, other=T))
        other = ("table", (T[1][0], T[1][1], T[1][2], ((1, 1), (2, 3))))
        self.assertTrue(is_part(T, other, part(T, other)))
        self.assertIs(is_part(one=T, other=other, thing=((), (1,))), True)
        self.assertIs(is_part(T, other, ((1,), (1, 1))), True)
        self.assertIs(is_part(T, other, ((), (0,))), False)
        self.assertIs(is_part(T, T, ((), (1,))), False)

    def test_rows_that_say_alike_all_or_never(self):
        even, odd = ("table", (((0, 2), (0, 0)),)), ("table", (((0, 1), (0, 301)),))
        self.assertIsNone(part(even, ("table", (((0, 4), (0, 1200)),))))
        self.assertIsNone(part(odd, ("table", (((0, 5), (0, 1)),))))
        for ahead, again in short_rounds(2, 2, 2):
            self.assertTrue(is_part(even, odd, (ahead, again)))
        self.assertTrue(is_part(even, odd, part(even, odd)))

    def test_rows_that_cannot_be_reached_do_not_count(self):
        one = ("table", (((0, 0),), ((1, 1),)))
        other = ("table", (((0, 0),), ((1, 2),), ((0, 1),)))
        self.assertIsNone(part(one, other))

    def test_ranks_far_apart(self):
        """The round that parts them has to leave out the greatest ranks of both."""
        one = ("table", (((0, 4), (0, 3), (0, 0)),))
        other = ("table", (((0, 2), (0, 4), (0, 1)),))
        told_pair = part(one, other)
        self.assertTrue(unlike(one, other, *told_pair))
        # The one tells 0 alone, and the other one has a greater rank of the same evenness to be left out.
        flat = ("table", (((0, 0), (0, 0), (0, 0)),))
        for high in (2, 4):
            steep = ("table", (((0, high), (0, 1), (0, high)),))
            for pair in ((flat, steep), (steep, flat)):
                told_pair = part(*pair)
                self.assertTrue(unlike(*pair, *told_pair))
                self.assertTrue(is_part(*pair, told_pair))
        flat = ("table", (((0, 1), (0, 1), (0, 1)),))
        steep = ("table", (((0, 3), (0, 0), (0, 3)),))
        for pair in ((flat, steep), (steep, flat)):
            self.assertTrue(unlike(*pair, *part(*pair)))

    def test_by_chance(self):
        chance = dice(311)
        seen = [0, 0]
        for _ in range(250):
            letters = chance.randint(1, 2)
            one = some_table(chance, chance.randint(1, 3), letters, chance.choice((2, 3, 5)))
            other = chance.choice((one, some_table(chance, chance.randint(1, 3), letters, 4), merged(one)))
            if chance.random() < 0.3:
                rows = [list(row) for row in one[1]]
                rows[-1][0] = (rows[-1][0][0], rows[-1][0][1] + chance.choice((1, 2)))
                other = ("table", tuple(tuple(row) for row in rows))
            pair = part(one, other)
            seen[pair is None] += 1
            if pair is None:
                for ahead, again in short_rounds(letters, 2, 5):
                    self.assertFalse(unlike(one, other, ahead, again), (one, other, ahead, again))
            else:
                self.assertTrue(unlike(one, other, *pair))
                self.assertIs(is_part(one, other, pair), True)
        self.assertGreater(min(seen), 60)

    def test_long_rows_of_letters(self):
        """Just one row of letters leads to a round, and just one row of letters goes through that to what is odd."""
        ahead, again = (0, 1, 1, 0, 2, 0, 1), (2, 1, 1, 0, 1)
        many = len(ahead) + len(again)
        rows = []
        for at, letter in enumerate(ahead + again):
            onward = at + 1 if at + 1 < many else len(ahead)
            rows.append(tuple((onward, 3 if onward == len(ahead) + 2 else 2) if other == letter else (many, 0) for other in range(3)))
        one = ("table", (*rows, ((many, 0),) * 3))
        for top, fine in ((0, True), (1, False), (6, True)):
            other = ("table", (((0, top),) * 3,))
            if fine:
                for pair, both in ((part(one, other), (one, other)), (part(other, one), (other, one))):
                    self.assertIs(is_part(*both, pair), True)
                    self.assertTrue(unlike(*both, *pair))
                    self.assertEqual((pair[0] + pair[1])[:len(ahead)], ahead)
                    self.assertEqual(len(pair[1]) - len(pair[1]) // len(again) * len(again), 0)
            self.assertIs(is_part(one, other, (ahead, again)), fine)
            self.assertIs(is_part(one, other, (ahead, again[:-1])), not fine)

    def test_is_part_by_the_words(self):
        chance = dice(312)
        seen = [0, 0]
        for _ in range(400):
            one, other = some_table(chance, 4, 2, 5), some_table(chance, 3, 2, 5)
            ahead = tuple(chance.randrange(2) for _ in range(chance.randint(0, 4)))
            again = tuple(chance.randrange(2) for _ in range(chance.randint(1, 4)))
            fine = unlike(one, other, ahead, again)
            seen[fine] += 1
            self.assertIs(is_part(one, other, (ahead, again)), fine)
        self.assertGreater(min(seen), 100)

    def test_greater_ones(self):
        chance = dice(313)
        one, other = some_table(chance, 400, 2, 1201), some_table(chance, 399, 2, 1201)
        self.assertTrue(is_part(one, other, part(one, other)))
        self.assertIsNone(part(one, one))

    def test_errors(self):
        wide = ("table", (((0, 0),) * 3,))
        for function in (part, lambda one, other: is_part(one, other, None)):
            for thing in junk_but():
                self.fails(BadTable, function, thing, None)
                self.fails(BadTable, function, thing, T)
                self.fails(BadTable, function, T, thing)
            self.fails(OtherLetters, function, T, wide)
        other = ("table", (((0, 0), (0, 1)),))
        self.none_of(lambda thing: is_part(T, other, thing), junk_but())
        self.none_of(lambda thing: is_part(T, other, thing), (
            ((), ()), ((), (2,)), ((2,), (1,)), ([], (1,)), ((), [1]), ((True,), (1,)), ((), (1, True)), ((), (1,), ()), ((), (-1,)), (0, (1,))))
        self.assertTrue(is_part(T, other, ((0,), (0,))) or is_part(T, other, ((), (1,))))


class Merged(Case):
    def test_by_hand(self):
        self.assertEqual(merged(table=T), T)
        wide = ("table", (((3, 0), (1, 5)), ((2, 1), (3, 0)), ((1, 1), (3, 0)), ((3, 0), (2, 5)), ((0, 7), (0, 7))))
        self.assertEqual(merged(wide), ("table", (((0, 0), (1, 5)), ((1, 1), (0, 0)))))

    def test_400_rows(self):
        line = ("table", tuple(((min(at + 1, 399), 1 if at == 399 else 0),) for at in range(400)))
        self.assertEqual(merged(line), line)
        self.assertEqual(merged(("table", tuple(((min(at + 1, 399), 0),) for at in range(400)))), ("table", (((0, 0),),)))
        self.assertEqual(merged(("table", tuple((((at + 1) % 400, at % 4),) for at in range(400)))),
                         ("table", tuple((((at + 1) % 4, at),) for at in range(4))))

    def test_by_chance(self):
        chance = dice(314)
        fewer = 0
        for _ in range(250):
            letters = chance.randint(1, 3)
            one = some_table(chance, chance.randint(1, 6), letters, 2)
            made = merged(one)
            fewer += len(made[1]) < len(one[1])
            self.assertTrue(is_table(made))
            self.assertEqual(merged(made), made)
            for row in itertools.product(range(letters), repeat=4):
                self.assertEqual(ranks_told(one, row), ranks_told(made, row))
            for _ in range(10):
                row = tuple(chance.randrange(letters) for _ in range(30))
                self.assertEqual(ranks_told(one, row), ranks_told(made, row))
            self.in_sequence(made)
            self.no_two_alike(made)
        self.assertGreater(fewer, 60)

    def in_sequence(self, made):
        """Its rows stand in the sequence in which they are met."""
        met = [0]
        for row in met:
            for goal, _ in made[1][row]:
                if goal not in met:
                    met.append(goal)
        self.assertEqual(met, list(range(len(made[1]))))

    def no_two_alike(self, made):
        """Of any two rows some letters tell them apart: a tree of letters as deep as there are rows."""
        rows = made[1]
        apart = {(p, q) for p in range(len(rows)) for q in range(len(rows))
                 if [rank for _, rank in rows[p]] != [rank for _, rank in rows[q]]}
        for _ in rows:
            apart |= {(p, q) for p in range(len(rows)) for q in range(len(rows))
                      if any((one, other) in apart for (one, _), (other, _) in zip(rows[p], rows[q]))}
        self.assertEqual(len(apart), len(rows) ** 2 - len(rows))

    def test_equal_exactly_if_they_tell_the_same(self):
        chance = dice(315)
        for _ in range(300):
            one, other = some_table(chance, 2, 1, 2), some_table(chance, 3, 1, 2)
            same = ranks_told(one, (0,) * 12) == ranks_told(other, (0,) * 12)
            self.assertIs(merged(one) == merged(other), same)

    def test_errors(self):
        for thing in junk_but():
            self.fails(BadTable, merged, thing)
