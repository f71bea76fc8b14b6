"""Point [36], and what the example of part 5 says of it."""

import itertools

from allboughs.easing import chain, eased, is_chain
from allboughs.errors import BadTable
from allboughs.tables import is_part, is_table, merged, part, table
from tests.judging import wrong_parts
from tests.support import Case, dice, junk_but, some_step
from tests.test_tables import T, short_rounds, some_table, unlike


def met_rows(thing):
    """The rows that can be reached."""
    met = [0]
    for row in met:
        for goal, _ in thing[1][row]:
            if goal not in met:
                met.append(goal)
    return set(met)


def is_loop_by_the_words(thing, loop):
    """Whether a lot of pairs is a loop."""
    rows = {row for row, _ in loop}
    if not loop or list(loop) != sorted(set(loop)) or not rows <= met_rows(thing):
        return False
    for row, letter in loop:
        met, todo = set(), [thing[1][row][letter][0]]
        while todo:
            at = todo.pop()
            if at not in met:
                met.add(at)
                todo.extend(thing[1][one][other][0] for one, other in loop if one == at)
        if not rows <= met:
            return False
    return True


def top(thing, loop):
    """The greatest rank of a loop."""
    return max(thing[1][row][letter][1] for row, letter in loop)


def is_chain_by_the_words(thing, loops):
    """Whether a tuple of tuples of pairs is a chain."""
    if not loops or not all(is_loop_by_the_words(thing, loop) for loop in loops):
        return False
    return all(set(one) <= set(other) and (top(thing, one) + top(thing, other)) % 2 for one, other in zip(loops, loops[1:]))


def need(thing, loops):
    """The rank that a chain needs."""
    return len(loops) - 1 + top(thing, loops[0]) % 2


def all_loops(thing):
    """All loops of a small table."""
    pairs = [(row, letter) for row in range(len(thing[1])) for letter in range(len(thing[1][0]))]
    told = []
    for many in range(1, len(pairs) + 1):
        told.extend(loop for loop in itertools.combinations(pairs, many) if is_loop_by_the_words(thing, loop))
    return told


def greatest(thing):
    """The greatest rank of a table."""
    return max(rank for row in thing[1] for _, rank in row)


class Chains(Case):
    def test_by_hand(self):
        self.assertIs(is_chain(table=T, thing=(((1, 0),), ((1, 0), (1, 1)))), True)
        told = chain(table=T)
        self.assertTrue(is_chain_by_the_words(T, told))
        self.assertEqual(need(T, told), 2)
        for wrong in (
            (), ((),), (((1, 0), (1, 1)), ((1, 0),)), (((0, 0),),), (((1, 1), (1, 0)),), (((1, 0),), ((1, 0),)), (((1, 0), (1, 0)),),
            (((1, 0),), ((1, 1),)), [((1, 0),)], ([(1, 0)],), (([1, 0],),), (((1, 2),),), (((4, 0),),), (((1, -1),),), (((True, 0),),),
            ((1, 0),), (((1, 0),), ((1, 0), (1, 1)), ((1, 0), (1, 1))), (((1, 0, 0),),), (((1, 0),), None),
        ):
            self.assertIs(is_chain(T, wrong), False, wrong)

    def test_rows_that_cannot_be_reached(self):
        thing = ("table", (((0, 0),), ((1, 1),), ((1, 1),)))
        self.assertIs(is_chain(thing, (((0, 0),),)), True)
        self.assertIs(is_chain(thing, (((1, 0),),)), False)
        self.assertEqual(chain(thing), (((0, 0),),))
        self.assertEqual(eased(("table", (((0, 8),), ((1, 1199),), ((1, 7),)))), ("table", (((0, 0),), ((1, 0),), ((1, 0),))))

    def test_goals_outside_and_rows_that_do_not_come_back(self):
        thing = ("table", (((1, 0), (0, 1)), ((0, 2), (2, 0)), ((2, 1), (2, 2))))
        for loops, fine in (
            ((((0, 0), (1, 0)),), True), ((((0, 0),),), False), ((((0, 0), (1, 0), (2, 0)),), False), ((((0, 1),),), True),
            ((((0, 1),), ((0, 0), (0, 1), (1, 0))), True), ((((0, 1), (2, 0)),), False), ((((0, 0), (1, 1), (2, 0)),), False),
            ((((2, 0),), ((2, 0), (2, 1))), True), ((((2, 1),), ((2, 0), (2, 1))), False), ((((0, 0), (1, 0), (1, 1)),), False),
        ):
            self.assertIs(is_chain(thing, loops), fine, loops)
            self.assertIs(is_chain_by_the_words(thing, loops), fine)

    def test_as_many_as_there_can_be(self):
        one_row = ("table", (tuple((0, letter) for letter in range(8)),))
        told = chain(one_row)
        self.assertEqual(told, tuple(tuple((0, at) for at in range(many)) for many in range(1, 9)))
        self.assertEqual(need(one_row, told), 7)
        self.assertEqual(eased(one_row), one_row)
        many = ("table", tuple(tuple(((at + 1) % 100, at * 8 + letter + 1) for letter in range(8)) for at in range(100)))
        self.assertTrue(is_chain(many, chain(many)))
        self.assertEqual(need(many, chain(many)), greatest(eased(many)))

    def test_no_odd_and_no_even_loop(self):
        even = ("table", (((1, 1), (0, 0)), ((0, 2), (1, 4))))
        self.assertEqual((need(even, chain(even)), len(chain(even))), (0, 1))
        self.assertEqual(eased(even), ("table", (((1, 0), (0, 0)), ((0, 0), (1, 0)))))
        odd = ("table", (((1, 2), (0, 1)), ((0, 3), (1, 7))))
        self.assertEqual((need(odd, chain(odd)), len(chain(odd))), (1, 1))
        self.assertEqual(greatest(eased(odd)), 1)
        self.assertIsNone(part(odd, eased(odd)))

    def test_one_loop(self):
        for rank, wanted in ((0, 0), (1, 1), (1200, 0), (1199, 1)):
            thing = ("table", (((1, 1200),), ((1, rank),)))
            self.assertEqual(chain(thing), (((1, 0),),))
            self.assertEqual(need(thing, chain(thing)), wanted)
            self.assertEqual(eased(thing), ("table", (((1, 0),), ((1, wanted),))))

    def test_by_chance(self):
        chance = dice(320)
        for _ in range(250):
            thing = some_table(chance, chance.randint(1, 3), chance.randint(1, 2), 6)
            told = chain(thing)
            self.assertTrue(is_chain_by_the_words(thing, told))
            self.assertIs(is_chain(thing, told), True)
            loops = all_loops(thing)
            best = {}
            for loop in loops:
                inner = [best[other] for other in best if set(other) <= set(loop) and (top(thing, other) + top(thing, loop)) % 2]
                best[loop] = max([one + 1 for one in inner], default=top(thing, loop) % 2)
            self.assertEqual(need(thing, told), max(best.values()))

    def test_is_chain_by_the_words(self):
        chance = dice(321)
        seen = [0, 0]
        for _ in range(800):
            thing = some_table(chance, 2, 2, 4)
            loops = all_loops(thing)
            pairs = [(row, letter) for row in range(2) for letter in range(2)]
            row = [chance.choice(loops) if chance.random() < 0.8 else tuple(sorted(chance.sample(pairs, 2))) for _ in range(chance.randint(1, 3))]
            row = tuple(sorted(row, key=len))
            fine = is_chain_by_the_words(thing, row)
            seen[fine] += 1
            self.assertIs(is_chain(thing, row), fine)
        self.assertGreater(min(seen), 100)


class Eased(Case):
    def test_by_hand(self):
        told = eased(table=T)
        self.assertEqual([[goal for goal, _ in row] for row in told[1]], [[goal for goal, _ in row] for row in T[1]])
        self.assertIsNone(part(T, told))
        self.assertEqual(greatest(told), 2)

    def test_it_says_alike_with_least_ranks(self):
        chance = dice(322)
        for _ in range(200):
            letters = chance.randint(1, 3)
            thing = some_table(chance, chance.randint(1, 5), letters, chance.choice((4, 8, 1201)))
            told = eased(thing)
            self.assertTrue(is_table(told))
            self.assertEqual([[goal for goal, _ in row] for row in told[1]], [[goal for goal, _ in row] for row in thing[1]])
            self.assertIsNone(part(thing, told))
            self.assertEqual(greatest(told), need(thing, chain(thing)))
            self.assertEqual(greatest(eased(told)), greatest(told))
            for ahead, again in itertools.islice(short_rounds(letters, 2, 3), 60):
                self.assertFalse(unlike(thing, told, ahead, again))

    def test_no_ranks_below_say_alike(self):
        chance = dice(323)
        met = set()
        for _ in range(60):
            thing = some_table(chance, 2, 2, 6)
            most = greatest(eased(thing))
            met.add(most)
            if most > 0:
                for ranks in itertools.product(range(most), repeat=4):
                    rows = tuple(tuple((goal, ranks[2 * at + letter]) for letter, (goal, _) in enumerate(row)) for at, row in enumerate(thing[1]))
                    other = ("table", rows)
                    pair = part(thing, other)
                    self.assertIsNotNone(pair)
                    self.assertTrue(is_part(thing, other, pair))
        self.assertGreater(len(met), 2)

    def test_tables_of_histories(self):
        chance = dice(324)
        for _ in range(40):
            ranks = tuple(chance.randrange(4) for _ in range(3))
            thing = table(ranks, tuple(some_step(chance, 3, 0.4) for _ in range(2)))
            told = eased(thing)
            self.assertIsNone(part(thing, told))
            self.assertTrue(is_chain(thing, chain(thing)))
            self.assertEqual(greatest(told), need(thing, chain(thing)))
            self.assertEqual(greatest(eased(merged(thing))), greatest(told))

    def test_400_rows(self):
        chance = dice(325)
        thing = some_table(chance, 400, 3, 1201)
        self.assertIsNone(part(thing, eased(thing)))
        self.assertEqual(greatest(eased(thing)), need(thing, chain(thing)))


class Errors(Case):
    def test_errors(self):
        for thing in junk_but() + [("table", (((0, 1201),),)), ("table", (((0, 0),),) * 401)]:
            self.fails(BadTable, chain, thing)
            self.fails(BadTable, eased, thing)
            self.fails(BadTable, is_chain, thing, None)
        self.none_of(lambda thing: is_chain(T, thing), junk_but())
        self.none_of(lambda thing: is_chain(T, thing), wrong_parts((((1, 0),), ((1, 0), (1, 1))))[:-1])
