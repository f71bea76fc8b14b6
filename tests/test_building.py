"""Points [25], [26] and [27]."""

import itertools

from allboughs.building import contrary, joining, meeting, started, turned, widened
from allboughs.errors import BadMachine, BadScope, BadState, OtherScope
from allboughs.machines import is_machine, pressed
from tests.support import Case, alike, dice, junk_but, machine_keeps, machine_lets, some_machine, some_wood_of
from tests.test_conditions import chain, mirrored, spread
from tests.test_machines import M, line
from tests.test_woods import BAD_SCOPES

YES, NO = ("yes",), ("no",)
ONE = ("machine", (), ((0, (("go", 0, 0),)),))


def one_state(condition, rank=0):
    """A machine of one state, without names."""
    return ("machine", (), ((rank, (condition,)),))


def woods(chance, scope, times=5):
    """Some woods of a scope."""
    return [some_wood_of(chance, scope, chance.randint(1, 4)) for _ in range(times)]


class Contrary(Case):
    def test_by_hand(self):
        told = ("machine", ("x",), ((0, (("go", 0, 0), ("go", 0, 1))), (1, (("go", 0, 0), ("go", 0, 1)))))
        self.assertEqual(contrary(M), told)
        self.assertEqual(contrary(machine=told), M)
        self.assertEqual(contrary(one_state(("both", ("go", 0, 0), YES))), one_state(("go", 0, 0), 1))

    def test_it_lets_by_the_others(self):
        chance = dice(30)
        for _ in range(60):
            machine = some_machine(chance, ("x",), chance.randint(1, 3), 4)
            other = contrary(machine)
            self.assertTrue(is_machine(other))
            self.assertEqual(pressed(other), other)
            for wood in woods(chance, ("x",)):
                self.assertNotEqual(machine_lets(machine, wood), machine_lets(other, wood))

    def test_twice(self):
        chance = dice(31)
        for _ in range(60):
            machine = some_machine(chance, ("x",), chance.randint(1, 5), 9, 4)
            told, small = contrary(contrary(machine)), pressed(machine)
            self.assertEqual([row[1] for row in told[2]], [row[1] for row in small[2]])
            self.assertEqual(max(row[0] for row in told[2]), max(row[0] for row in small[2]))
            self.assertEqual(pressed(told), told)

    def test_rank_300(self):
        self.assertEqual(contrary(one_state(("go", 0, 0), 300)), one_state(("go", 0, 0), 1))
        machine = line(301, range(301))
        rows = [(rank, (("either", row[0], ("go", 1, max(0, at - 1))),)) for at, (rank, row) in enumerate(machine[2])]
        ranks = [rank for rank, _ in pressed(("machine", (), tuple(rows)))[2]]
        self.assertEqual(max(ranks), 300)
        self.many(300, contrary, ("machine", (), tuple(rows)))
        lower = contrary(("machine", (), tuple([*rows[:299], (299, (("go", 0, 298),))])))
        self.assertEqual(max(rank for rank, _ in lower[2]), 300)

    def test_errors(self):
        for thing in junk_but():
            self.fails(BadMachine, contrary, thing)


class MeetingAndJoining(Case):
    def test_by_hand(self):
        told = ("machine", (), (
            (0, (("both", ("go", 0, 1), ("go", 1, 2)),)), (1, (("go", 0, 1),)), (0, (("go", 1, 2),))))
        one, other = one_state(("go", 0, 0), 3), one_state(("go", 1, 0), 8)
        self.assertEqual(meeting(one, other), told)
        self.assertEqual(joining(one=one, other=other)[2][0], (0, (("either", ("go", 0, 1), ("go", 1, 2)),)))
        self.assertEqual(meeting(one=one, other=one_state(YES)), ("machine", (), ((0, (("go", 0, 1),)), (1, (("go", 0, 1),)))))
        self.assertEqual(meeting(one, one_state(NO)), one_state(NO))
        self.assertEqual(joining(one, one_state(YES)), one_state(YES))

    def test_the_letters_keep_their_places(self):
        one = ("machine", ("x",), ((0, (YES, NO)),))
        other = ("machine", ("x",), ((0, (("go", 0, 0), ("go", 1, 0))),))
        self.assertEqual(meeting(one, other)[2][0][1], (("go", 0, 1), NO))
        self.assertEqual(joining(one, other)[2][0][1], (YES, ("go", 1, 1)))

    def test_they_let_by_both_or_one(self):
        chance = dice(32)
        for _ in range(50):
            one = some_machine(chance, ("x",), chance.randint(1, 2), 3)
            other = some_machine(chance, ("x",), chance.randint(1, 2), 3)
            meet, join = meeting(one, other), joining(one, other)
            self.assertEqual((pressed(meet), pressed(join)), (meet, join))
            self.assertTrue(is_machine(meet) and is_machine(join))
            for wood in woods(chance, ("x",), 3):
                mine, theirs = machine_lets(one, wood), machine_lets(other, wood)
                self.assertEqual(machine_lets(meet, wood), mine and theirs)
                self.assertEqual(machine_lets(join, wood), mine or theirs)

    def test_number_of_states(self):
        for function in (meeting, joining):
            self.assertEqual(len(function(line(199, [0] * 199), line(200, [0] * 200))[2]), 400)
            self.many(400, function, line(200, [0] * 200), line(200, [0] * 200))
            self.many(400, function, line(400, [0] * 400), line(400, [0] * 400))

    def test_what_is_not_come_to_does_not_count(self):
        far = ("machine", (), ((0, (NO,)), *[(0, (("go", 0, at),)) for at in range(399)]))
        self.assertEqual(joining(far, ONE), ("machine", (), ((0, (("go", 0, 1),)), (0, (("go", 0, 1),)))))
        self.assertEqual(len(joining(far, line(399, [0] * 399))[2]), 400)

    def test_number_of_nodes(self):
        fits = one_state(spread(400))
        self.assertEqual(len(str(meeting(fits, fits)[2][0]).split("go")) - 1, 800)
        for function in (meeting, joining):
            self.many(1600, function, fits, one_state(spread(401)))
            self.many(1600, function, one_state(spread(800)), one_state(spread(800)))
        self.assertTrue(is_machine(meeting(one_state(spread(800)), one_state(YES))))

    def test_depth(self):
        for function in (meeting, joining):
            self.assertTrue(is_machine(function(one_state(chain(29)), one_state(chain(29)))))
            self.many(30, function, one_state(chain(29)), one_state(chain(30)))
            self.many(30, function, one_state(chain(30)), one_state(chain(29)))
            self.many(30, function, one_state(chain(30)), ONE)
            self.many(30, function, one_state(mirrored(chain(30))), ONE)
            plain_one = function(one_state(chain(30)), one_state(YES if function is meeting else NO))
            self.assertTrue(is_machine(plain_one))

    def test_order_of_too_many(self):
        wide, deep = one_state(spread(800)), one_state(chain(30))
        long = line(400, [0] * 400)
        self.many(400, meeting, long, wide)
        self.many(400, meeting, deep, long)
        self.many(1600, meeting, wide, deep)

    def test_errors_in_order(self):
        for function in (meeting, joining):
            for thing in junk_but():
                self.fails(BadMachine, function, thing, None)
                self.fails(BadMachine, function, thing, ONE)
                self.fails(BadMachine, function, M, thing)
            self.fails(OtherScope, function, M, ONE)
            self.fails(OtherScope, function, line(400, [0] * 400), M)
            self.fails(OtherScope, function, M, ("machine", ("y",), M[2]))


class Widened(Case):
    def test_by_hand(self):
        one = ("machine", ("b",), ((7, (NO, YES)), (2, (YES, ("go", 0, 1)))))
        told = ("machine", ("a", "b"), ((7, (NO, NO, YES, YES)), (2, (YES, YES, ("go", 0, 1), ("go", 0, 1)))))
        self.assertEqual(widened(one, ("a", "b")), told)
        self.assertEqual(widened(machine=one, scope=("b",)), one)
        self.assertEqual(widened(one, ("a", "b", "c"))[2][0][1], (NO, NO, YES, YES) * 2)
        self.assertEqual(widened(one_state(NO, 9), ("x", "y"))[2], ((9, (NO,) * 4),))

    def test_it_lets_by_what_is_let_by_without_the_new_marks(self):
        chance = dice(33)
        for _ in range(40):
            machine = some_machine(chance, ("b",), 2, 3)
            for scope in (("a", "b"), ("b", "c"), ("a", "b", "c")):
                wide = widened(machine, scope)
                self.assertTrue(is_machine(wide))
                for wood in woods(chance, scope, 2):
                    bare = tuple((tuple(x for x in row[0] if x == "b"), *row[1:]) for row in wood[2])
                    self.assertEqual(machine_lets(wide, wood), machine_lets(machine, ("wood", ("b",), bare)))

    def test_errors_in_order(self):
        for thing in junk_but():
            self.fails(BadMachine, widened, thing, None)
        for scope in (*BAD_SCOPES, (), ("a",), ("y",), ("a", "y"), ("x", "a"), ("a", "b", "x", "y")):
            self.fails(BadScope, widened, M, scope)
        self.fails(BadScope, widened, ONE, ["x"])


class Turned(Case):
    def test_by_hand(self):
        machine = ("machine", (), ((5, (("both", ("go", 0, 1), ("either", ("go", 1, 0), YES)),)), (0, (NO,))))
        told = ("machine", (), ((5, (("both", ("go", 1, 1), ("either", ("go", 0, 0), YES)),)), (0, (NO,))))
        self.assertEqual(turned(machine), told)
        self.assertEqual(turned(machine=told), machine)

    def test_it_lets_by_what_is_exchanged(self):
        chance = dice(34)
        for _ in range(40):
            machine = some_machine(chance, ("x",), 3, 3)
            for wood in woods(chance, ("x",), 3):
                other = ("wood", ("x",), tuple((letter, right, left) for letter, left, right in wood[2]))
                self.assertEqual(machine_lets(turned(machine), wood), machine_lets(machine, other))

    def test_errors(self):
        for thing in junk_but():
            self.fails(BadMachine, turned, thing)


class Started(Case):
    def test_by_hand(self):
        self.assertEqual(started(M, 0), M)
        self.assertEqual(started(M, 1), ("machine", ("x",), (
            (2, (("go", 0, 1), ("go", 0, 0))), (1, (("go", 0, 1), ("go", 0, 0))))))
        self.assertEqual(started(machine=line(3, [4, 3, 4], back=False), state=1),
                         ("machine", (), ((0, (("go", 0, 1),)), (0, (("go", 0, 1),)))))

    def test_it_lets_by_the_trees_within(self):
        chance = dice(35)
        for _ in range(40):
            machine = some_machine(chance, ("x",), 3, 3)
            wood = some_wood_of(chance, ("x",), 3)
            keeps = machine_keeps(machine, wood)
            for q, node in itertools.product(range(3), range(3)):
                order = [node, *[at for at in range(3) if at != node]]
                moved = tuple((wood[2][at][0], order.index(wood[2][at][1]), order.index(wood[2][at][2])) for at in order)
                begun = ("wood", ("x",), moved)
                self.assertTrue(node or alike(begun, wood))
                told = started(machine, q)
                self.assertEqual(pressed(told), told)
                self.assertEqual(machine_lets(told, begun), (node, q) in keeps)

    def test_errors_in_order(self):
        for thing in junk_but():
            self.fails(BadMachine, started, thing, None)
        for state in junk_but(0, 1):
            self.fails(BadState, started, M, state)
        for state in (2, -1, True, False, 400, "0"):
            self.fails(BadState, started, M, state)
