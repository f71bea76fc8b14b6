"""Points [22] and [23] but for layings; the hearts of [25], [26] and [27] by verdict; the example of part 4."""

from allboughs.building import contrary, joining, meeting, started, turned, widened
from allboughs.errors import BadMachine, BadWood, OtherScope, TooMany
from allboughs.games import is_game, plans
from allboughs.grafting import exchanged, without
from allboughs.machines import is_machine, pressed
from allboughs.playing import game_of, is_verdict, lets_by, standings, verdict, won
from allboughs.woods import is_wood, least, node_at, within
from tests.judging import wrong_parts
from tests.plans import good_plan, ways_of
from tests.support import Case, bits, dice, held, junk_but, machine_keeps, machine_lets, some_machine, some_wood_of

X = ("x",)
YES, NO = ("yes",), ("no",)
M = ("machine", X, ((1, (("go", 0, 0), ("go", 0, 1))), (2, (("go", 0, 0), ("go", 0, 1)))))
W = ("wood", X, ((X, 1, 0), ((), 0, 0)))
FUNCTIONS = (standings, game_of, verdict, lets_by, won, lambda machine, wood: is_verdict(machine, wood, None))


def at_path(condition, path):
    """The condition to which a path leads."""
    for turn in path:
        condition = condition[turn]
    return condition


def spot_of(machine, wood, node, q, path):
    """The spot of a condition, by the words of [22]."""
    letter, *goals = wood[2][node]
    condition = at_path(machine[2][q][1][bits(machine[1]).index(letter)], path)
    if condition in (YES, NO):
        return condition
    if condition[0] == "go":
        return ("state", goals[condition[1]], condition[2])
    return ("part", node, q, path)


def goals_of(machine, wood, standing):
    """The goals of a standing, by the words of [22]."""
    if standing in (YES, NO):
        return [standing]
    if standing[0] == "state":
        return [spot_of(machine, wood, standing[1], standing[2], ())]
    _, node, q, path = standing
    first, second = [spot_of(machine, wood, node, q, path + (turn,)) for turn in (1, 2)]
    return [first] if first == second else [first, second]


def standings_by_the_words(machine, wood):
    """The standings in the sequence in which they are met, and the game of them."""
    met = [("state", 0, 0)]
    for standing in met:
        for goal in goals_of(machine, wood, standing):
            if goal not in met:
                met.append(goal)
    rows = []
    for standing in met:
        side, rank = 0, 0
        if standing[0] == "state":
            rank = machine[2][standing[2]][0]
        elif standing[0] == "part":
            _, node, q, path = standing
            whole = machine[2][q][1][bits(machine[1]).index(wood[2][node][0])]
            side = 1 if at_path(whole, path)[0] == "both" else 0
        elif standing == NO:
            rank = 1
        rows.append((side, rank, tuple(met.index(goal) for goal in goals_of(machine, wood, standing))))
    return tuple(met), ("game", tuple(rows))


def drawn_pairs(seed, many, ranks=5, scopes=((), X, X, ("x", "y")), nodes=4):
    """Machines and woods of their scopes."""
    chance = dice(seed)
    for _ in range(many):
        scope = chance.choice(scopes)
        machine = some_machine(chance, scope, chance.randint(1, 4), ranks, chance.randint(1, 4))
        yield machine, some_wood_of(chance, scope, chance.randint(1, nodes)), chance


def ring(many):
    """A wood: left to the next one, right to itself; the last node alone bears x."""
    return ("wood", X, tuple((X if at == many - 1 else (), (at + 1) % many, at) for at in range(many)))


def ladder(many, last):
    """A machine that goes on left with the same state, right with the next one; last is its last condition at x."""
    rows = []
    for at in range(many):
        condition = ("either", ("go", 0, at), ("go", 1, (at + 1) % many))
        rows.append((1, (condition, last if at == many - 1 else condition)))
    return ("machine", X, tuple(rows))


class Standings(Case):
    def test_by_hand(self):
        self.assertEqual(standings(machine=M, wood=W), (("state", 0, 0), ("state", 1, 1)))
        self.assertEqual(game_of(machine=M, wood=W), ("game", ((0, 1, (1,)), (0, 2, (0,)))))

    def test_parts_with_one_spot(self):
        both = ("both", ("go", 0, 1), ("go", 1, 1))
        machine = ("machine", (), ((0, (both,)), (3, (("either", ("both", YES, YES), ("both", NO, both)),))))
        one = ("wood", (), (((), 0, 0),))
        self.assertEqual(standings(machine, one), (
            ("state", 0, 0), ("part", 0, 0, ()), ("state", 0, 1), ("part", 0, 1, ()), ("part", 0, 1, (1,)),
            ("part", 0, 1, (2,)), YES, NO, ("part", 0, 1, (2, 2))))
        self.assertEqual(game_of(machine, one), ("game", (
            (0, 0, (1,)), (1, 0, (2,)), (0, 3, (3,)), (0, 0, (4, 5)), (1, 0, (6,)), (1, 0, (7, 8)), (0, 0, (6,)), (0, 1, (7,)),
            (1, 0, (2,)))))
        two = ("wood", (), (((), 1, 0), ((), 0, 0)))
        self.assertEqual(game_of(machine, two)[1][1], (1, 0, (2, 3)))

    def test_yes_and_no_at_once(self):
        one = ("wood", (), (((), 0, 0),))
        self.assertEqual(standings(("machine", (), ((4, (YES,)),)), one), (("state", 0, 0), YES))
        self.assertEqual(game_of(("machine", (), ((4, (NO,)),)), one), ("game", ((0, 4, (1,)), (0, 1, (1,)))))

    def test_by_the_words(self):
        for machine, wood, _ in drawn_pairs(220, 300):
            told, game = standings_by_the_words(machine, wood)
            self.assertEqual(standings(machine, wood), told)
            self.assertEqual(game_of(machine, wood), game)
            self.assertTrue(is_game(game))

    def test_20000_standings(self):
        wide = ladder(25, ("either", ("go", 0, 24), ("go", 1, 0)))
        self.assertEqual(len(standings(wide, ring(400))), 20000)
        self.assertEqual(len(game_of(wide, ring(400))[1]), 20000)
        self.assertIs(lets_by(wide, ring(400)), False)
        wider = ladder(25, ("either", ("go", 0, 24), NO))
        self.assertTrue(is_machine(wider))
        for function in FUNCTIONS:
            self.many(20000, function, wider, ring(400))

    def test_errors(self):
        for function in FUNCTIONS:
            for thing in junk_but():
                self.fails(BadMachine, function, thing, None)
                self.fails(BadWood, function, M, thing)
            self.fails(OtherScope, function, M, ("wood", (), (((), 0, 0),)))
            self.fails(OtherScope, function, M, ("wood", ("y",), (((), 0, 0),)))
            self.fails(OtherScope, function, ladder(26, YES), ("wood", (), (((), 0, 0),)))


class Verdicts(Case):
    def test_by_hand(self):
        self.assertEqual(verdict(machine=M, wood=W), ("yes", ("plan", 0, ((0, 1), (1, 0)))))
        self.assertEqual(won(machine=M, wood=W), ((0, 0), (1, 1)))
        self.assertIs(lets_by(machine=M, wood=W), True)
        self.assertIs(is_verdict(machine=M, wood=W, thing=("yes", ("plan", 0, ((0, 1), (1, 0))))), True)
        self.assertIs(lets_by(M, ("wood", X, (((), 0, 0),))), False)
        self.assertEqual(verdict(M, ("wood", X, (((), 0, 0),))), ("no", ("plan", 1, ((0, None),))))
        self.assertEqual(won(M, ("wood", X, (((), 0, 0),))), ())

    def test_machines_that_let_all_by_and_none(self):
        for scope in ((), X):
            wood = some_wood_of(dice(221), scope, 5)
            for condition, rank, fine in (
                (YES, 1, True), (NO, 0, False), (("go", 0, 0), 0, True), (("go", 1, 0), 1, False),
                (("both", ("go", 0, 0), ("go", 1, 0)), 2, True), (("either", ("go", 0, 0), ("go", 1, 0)), 301 - 2, False),
            ):
                machine = ("machine", scope, ((rank, (condition,) * 2 ** len(scope)),))
                self.assertIs(lets_by(machine, wood), fine)
                self.assertEqual(verdict(machine, wood)[0], "yes" if fine else "no")

    def test_plans_and_words(self):
        seen = [0, 0]
        for machine, wood, _ in drawn_pairs(222, 400):
            game = game_of(machine, wood)
            word, plan = verdict(machine, wood)
            fine = machine_lets(machine, wood)
            seen[fine] += 1
            self.assertEqual(word, "yes" if fine else "no")
            self.assertIs(lets_by(machine, wood), fine)
            self.assertTrue(good_plan(game, plan))
            self.assertEqual(plan[1], 0 if fine else 1)
            self.assertEqual(plan[2][0][0], 0)
            self.assertTrue(is_verdict(machine, wood, (word, plan)))
            for wrong in ((word, ("plan", 1 - plan[1], plan[2])), ("no" if fine else "yes", plan), (word, ("plan", plan[1], ())),
                          (word, ("plan", plan[1], plan[2][1:])), [word, plan], (word, plan, 0), word, (word,), plan):
                self.assertFalse(is_verdict(machine, wood, wrong))
        self.assertGreater(min(seen), 100)

    def test_any_other_verdict(self):
        for machine, wood, chance in drawn_pairs(223, 150):
            game = game_of(machine, wood)
            for plan in plans(game):
                for word in ("yes", "no"):
                    first = len(plan[2]) > 0 and plan[2][0][0] == 0
                    fine = first and word == ("yes", "no")[plan[1]]
                    self.assertIs(is_verdict(machine, wood, (word, plan)), fine)
            word, plan = verdict(machine, wood)
            ways = ways_of(game, plan)
            rows, todo = set(), [0]
            while todo:
                row = todo.pop()
                if row not in rows:
                    rows.add(row)
                    todo.extend(ways[row])
            pared = ("plan", plan[1], tuple(move for move in plan[2] if move[0] in rows))
            self.assertTrue(is_verdict(machine, wood, (word, pared)))
            spoiled = pared[2][:-1]
            if len(spoiled) > 0:
                self.assertFalse(is_verdict(machine, wood, (word, ("plan", plan[1], spoiled))))

    def test_odd_values(self):
        self.none_of(lambda thing: is_verdict(M, W, thing), junk_but())
        self.none_of(lambda thing: is_verdict(M, W, thing), wrong_parts(("yes", ("plan", 0, ((0, 1), (1, 0))))))
        self.none_of(lambda thing: is_verdict(M, W, thing), [(word, ("plan", 0, ((0, 1), (1, 0)))) for word in ("no", "maybe", None, 0)])

    def test_won(self):
        for machine, wood, _ in drawn_pairs(224, 300):
            spots = [standing[1:] for standing in standings(machine, wood) if standing[0] == "state"]
            kept = machine_keeps(machine, wood)
            told = won(machine, wood)
            self.assertEqual(told, tuple(sorted(set(spots) & kept)))
            self.assertIs((0, 0) in told, lets_by(machine, wood))
            for node, q in spots:
                letter, *goals = wood[2][node]
                condition = machine[2][q][1][bits(machine[1]).index(letter)]
                self.assertIs((node, q) in told, held(condition, lambda way, r: (goals[way], r) in told))

    def test_alike_woods_have_one_word(self):
        for machine, wood, _ in drawn_pairs(225, 150):
            self.assertIs(lets_by(machine, least(wood)), lets_by(machine, wood))
            wide = ("wood", wood[1], tuple(
                (letter, left + len(wood[2]), right) for letter, left, right in wood[2]) + wood[2])
            self.assertTrue(is_wood(wide))
            self.assertIs(lets_by(machine, wide), lets_by(machine, wood))


class Hearts(Case):
    def test_contrary_and_pressed(self):
        for machine, wood, _ in drawn_pairs(226, 200):
            fine = lets_by(machine, wood)
            self.assertIs(lets_by(contrary(machine), wood), not fine)
            self.assertIs(lets_by(pressed(machine), wood), fine)

    def test_meeting_and_joining(self):
        chance = dice(227)
        seen = set()
        for _ in range(200):
            scope = chance.choice(((), X))
            one = some_machine(chance, scope, chance.randint(1, 3), 4)
            other = some_machine(chance, scope, chance.randint(1, 3), 4)
            wood = some_wood_of(chance, scope, 3)
            mine, theirs = lets_by(one, wood), lets_by(other, wood)
            self.assertIs(lets_by(meeting(one, other), wood), mine and theirs)
            self.assertIs(lets_by(joining(one, other), wood), mine or theirs)
            seen.add((mine, theirs))
        self.assertEqual(len(seen), 4)

    def test_widened(self):
        chance = dice(228)
        for _ in range(150):
            machine = some_machine(chance, ("b",), chance.randint(1, 3), 4)
            wood = some_wood_of(chance, ("a", "b", "c"), 3)
            self.assertIs(lets_by(widened(machine, ("a", "b", "c")), wood), lets_by(machine, without(wood, ("a", "c"))))

    def test_turned(self):
        for machine, wood, _ in drawn_pairs(229, 150):
            self.assertIs(lets_by(turned(machine), exchanged(wood)), lets_by(machine, wood))

    def test_started(self):
        for machine, wood, chance in drawn_pairs(230, 200):
            told = won(machine, wood)
            known = standings(machine, wood)
            place = tuple(chance.randrange(2) for _ in range(chance.randint(0, 3)))
            node = node_at(wood, place)
            for q in range(len(machine[2])):
                fine = lets_by(started(machine, q), within(wood, place))
                self.assertIs(fine, (node, q) in machine_keeps(machine, wood))
                if ("state", node, q) in known:
                    self.assertIs(fine, (node, q) in told)


class Limits(Case):
    def test_too_many_is_last(self):
        with self.assertRaises(TooMany):
            standings(ladder(26, YES), ring(400))
        self.fails(OtherScope, standings, ladder(26, YES), ("wood", (), (((), 0, 0),)))
