"""Points [21] and [26] as far as it speaks of pressed."""

import itertools

from allboughs.errors import BadMachine
from allboughs.machines import is_machine, pressed
from tests.support import Case, bits, dice, junk_but, machine_lets, some_machine, some_wood_of

YES, NO = ("yes",), ("no",)
M = ("machine", ("x",), ((1, (("go", 0, 0), ("go", 0, 1))), (2, (("go", 0, 0), ("go", 0, 1)))))


def goals_of(condition):
    """The states of the goes of a condition."""
    if condition[0] == "go":
        return {condition[2]}
    return set().union(*[goals_of(part) for part in condition[1:]]) if len(condition) == 3 else set()


def graph(machine):
    """For each state the lot of states to which it has a go."""
    return [set().union(*[goals_of(condition) for condition in conditions]) for _, conditions in machine[2]]


def rounds(ways):
    """All lots of states such that one can go round through just these."""
    told = []
    for many in range(1, len(ways) + 1):
        for lot in itertools.combinations(range(len(ways)), many):
            if all(reached(ways, lot, one) >= set(lot) for one in lot):
                told.append(lot)
    return told


def reached(ways, lot, one):
    """The states of a lot to which one comes by a step at least within it."""
    met, todo = set(), [one]
    while todo:
        for goal in ways[todo.pop()]:
            if goal in lot and goal not in met:
                met.add(goal)
                todo.append(goal)
    return met


def line(many, ranks, back=True):
    """A machine in which each state goes to the next one, the last one back to the first."""
    rows = []
    for at in range(many):
        goal = (at + 1) % many if back else min(at + 1, many - 1)
        rows.append((ranks[at], (("go", 0, goal),)))
    return ("machine", (), tuple(rows))


class IsMachine(Case):
    def test_machines(self):
        self.assertIs(is_machine(M), True)
        self.assertIs(is_machine(thing=("machine", (), ((0, (YES,)),))), True)
        self.assertTrue(is_machine(("machine", ("a", "b", "c"), ((300, (("go", 1, 0),) * 8),))))

    def test_number_of_states(self):
        self.assertTrue(is_machine(line(400, [0] * 400)))
        self.assertFalse(is_machine(line(401, [0] * 401)))
        self.assertFalse(is_machine(("machine", (), ((0, (YES,)),) * 401)))
        self.assertFalse(is_machine(("machine", (), ())))
        self.assertTrue(is_machine(("machine", (), ((0, (("go", 0, 399),)),) * 400)))
        self.assertFalse(is_machine(("machine", (), ((0, (("go", 0, 399),)),) * 399)))

    def test_ranks(self):
        self.assertTrue(is_machine(("machine", (), ((300, (YES,)),))))
        self.none_of(is_machine, [("machine", (), ((rank, (YES,)),)) for rank in (301, -1, True, 0.0, "0", None, (0,))])

    def test_no_machines(self):
        rows = (
            (0, ()), (0, (YES, YES)), (0, [YES]), (0, YES), (0, (("go", 0, 1),)), (0, (("go", 2, 0),)), (0,), (YES,),
            (0, (YES,), 0), (0, (YES,), ()), [0, (YES,)], None, (0, (("both", YES),)), (0, (None,)), (0, (("either", YES, ("go", 0, 1)),)),
        )
        self.none_of(is_machine, [("machine", (), (row,)) for row in rows])
        self.none_of(is_machine, [
            ["machine", (), ((0, (YES,)),)], ("machine", (), [(0, (YES,))]), ("machine", ["x"], ((0, (YES, YES)),)),
            ("machine", ("x",), ((0, (YES,)),)), ("machine", ("y", "x"), ((0, (YES,) * 4),)), ("machines", (), ((0, (YES,)),)),
            ("machine", ("a", "b", "c", "d"), ((0, (YES,) * 16),)), ("machine", (), ((0, (YES,)),), ()), ("machine", ()),
        ])
        self.none_of(is_machine, junk_but())


class Pressed(Case):
    def test_by_hand(self):
        self.assertEqual(pressed(M), M)
        self.assertEqual(pressed(machine=("machine", (), ((5, (YES,)),))), ("machine", (), ((0, (YES,)),)))
        self.assertEqual(pressed(("machine", (), ((300, (("go", 0, 0),)),))), ("machine", (), ((0, (("go", 0, 0),)),)))
        self.assertEqual(pressed(("machine", (), ((299, (("go", 0, 0),)),))), ("machine", (), ((1, (("go", 0, 0),)),)))

    def test_conditions_are_made_plain(self):
        row = (0, (("both", YES, ("go", 0, 0)), ("either", NO, ("both", NO, ("go", 1, 1)))))
        told = pressed(("machine", ("x",), (row, row)))
        self.assertEqual(told, ("machine", ("x",), ((0, (("go", 0, 0), NO)),)))

    def test_numbered_as_a_walk_meets_them(self):
        rows = (
            (0, (("either", ("go", 1, 3), ("go", 0, 4)), ("go", 0, 1))),
            (0, (YES, ("go", 0, 0))),
            (7, (YES, YES)),
            (0, (("both", ("either", ("go", 0, 5), ("go", 0, 0)), ("go", 0, 3)), YES)),
            (0, (NO, NO)),
            (0, (YES, NO)),
        )
        told = pressed(("machine", ("x",), rows))
        self.assertEqual(told, ("machine", ("x",), (
            (0, (("either", ("go", 1, 1), ("go", 0, 2)), ("go", 0, 3))),
            (0, (("both", ("either", ("go", 0, 4), ("go", 0, 0)), ("go", 0, 1)), YES)),
            (0, (NO, NO)),
            (0, (YES, ("go", 0, 0))),
            (0, (YES, NO)),
        )))

    def test_ranks_told_anew(self):
        self.assertEqual([rank for rank, _ in pressed(line(3, [7, 2, 5]))[2]], [1, 0, 0])
        nested = (
            (9, (("either", ("go", 0, 0), ("go", 0, 1)),)),
            (4, (("either", ("go", 0, 0), ("either", ("go", 0, 1), ("go", 0, 2))),)),
            (3, (("either", ("go", 0, 1), ("go", 0, 2)),)),
        )
        self.assertEqual([rank for rank, _ in pressed(("machine", (), nested))[2]], [3, 2, 1])
        alone = ((6, (("go", 0, 1),)), (5, (("go", 0, 1),)))
        self.assertEqual([rank for rank, _ in pressed(("machine", (), alone))[2]], [0, 1])

    def test_a_ring_of_no_inner_ranks(self):
        rows = ((4, (("go", 0, 1),)), (2, (("go", 0, 0),)))
        self.assertEqual([rank for rank, _ in pressed(("machine", (), rows))[2]], [0, 0])

    def test_it_lets_by_the_same_and_stays(self):
        chance = dice(20)
        for at in range(120):
            machine = some_machine(chance, ("x",), chance.randint(1, 4), 5)
            told = pressed(machine)
            self.assertTrue(is_machine(told))
            self.assertEqual(pressed(told), told)
            for _ in range(3):
                wood = some_wood_of(chance, ("x",), 3)
                self.assertEqual(machine_lets(told, wood), machine_lets(machine, wood), at)

    def test_ranks_are_as_small_as_can_be(self):
        chance = dice(21)
        for _ in range(60):
            many = chance.randint(1, 4)
            machine = some_machine(chance, (), many, 6, 4)
            told = pressed(machine)
            if len(told[2]) < many:
                continue
            plain_ways = graph(told)
            ranks = [rank for rank, _ in told[2]]
            order = self.order_of(machine, told)
            old = [machine[2][at][0] for at in order]
            lots = rounds(plain_ways)
            for lot in lots:
                self.assertEqual(max(old[at] for at in lot) % 2, max(ranks[at] for at in lot) % 2)
            for fewer in itertools.product(range(max(ranks)), repeat=many):
                fits = all(max(old[at] for at in lot) % 2 == max(fewer[at] for at in lot) % 2 for lot in lots)
                self.assertFalse(fits)

    def order_of(self, machine, told):
        """The old numbers of the states of a pressed machine with as many states."""
        for order in itertools.permutations(range(len(told[2]))):
            if order[0] == 0:
                new = {old: at for at, old in enumerate(order)}
                moved = [(new, machine[2][old][1]) for old in order]
                if all(same(condition, mine, new) for (_, row), (_, kept) in zip(moved, told[2])
                       for condition, mine in zip(row, kept)):
                    return order
        raise AssertionError("no order")

    def test_400_states_300_ranks(self):
        machine = line(301, range(301))
        rows = [(rank, (("either", row[0], ("go", 1, max(0, at - 1))),)) for at, (rank, row) in enumerate(machine[2])]
        told = pressed(("machine", (), tuple(rows)))
        self.assertEqual([rank for rank, _ in told[2]], list(range(301)))
        self.assertEqual(pressed(line(400, [at % 301 for at in range(400)]))[2][300][0], 0)

    def test_errors_and_what_is_passed(self):
        for thing in junk_but():
            self.fails(BadMachine, pressed, thing)


def same(condition, mine, new):
    """Whether a condition, made plain by hand, is the other one with other numbers."""
    from allboughs.conditions import plain

    def renamed(part):
        if part[0] == "go":
            return ("go", part[1], new[part[2]])
        return (part[0], *[renamed(inner) for inner in part[1:]])

    return renamed(plain(condition)) == mine


class Bits(Case):
    def test_letters_of_the_judges(self):
        self.assertEqual(bits(("x", "y")), [(), ("x",), ("y",), ("x", "y")])
