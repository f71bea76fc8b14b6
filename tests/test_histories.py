"""Points [30], [32], [33] and [34], with the errors of [31] for judged_round."""

import itertools

from allboughs.errors import BadAgain, BadAhead, BadHistory, BadRanks, BadStep, BadSteps
from allboughs.histories import first, is_history, judged_round, led, runners, told
from tests.support import Case, dice, junk_but, some_step

A = ((0, 0), (0, 1), (1, 1))
B = ((0, 1), (1, 0))
ONE = ((0, 1), ((None, ((0, 1),)),))


def led_by_the_words(ranks, history, step):
    """What [33] says, sentence by sentence, with nests as dicts; told too is what became of the nests."""
    many = sum(1 for rank in ranks for odd in set(ranks) if odd % 2 and odd >= rank)
    reached = {r for q, r in step if q in history[0]}
    nests = [{"in": None, "lot": set(lot), "old": at} for at, (_, lot) in enumerate(history[1])]
    for nest, (home, _) in zip(nests, history[1]):
        nest["in"] = None if home is None else nests[home]
        nest["lot"] = {(r, k) for q, k in nest["lot"] for p, r in step if p == q and ranks[r] <= k}
    old = list(nests)
    nests.append({"in": None, "lot": {(r, ranks[r]) for r in reached if ranks[r] % 2}, "old": None})
    for nest in old:
        nests.append({"in": nest, "lot": {(r, k) for r, k in nest["lot"] if ranks[r] == k}, "old": None})
    for at, nest in enumerate(nests):
        for runner in set(nest["lot"]):
            outside = nest["in"] is not None and runner not in nest["in"]["lot"]
            if outside or any(elder["in"] is nest["in"] and runner in elder["lot"] for elder in nests[:at]):
                nest["lot"].remove(runner)
    fates = {}
    for nest in nests:
        inner = set().union(*[other["lot"] for other in nests if other["in"] is nest])
        empty, full = not nest["lot"], bool(nest["lot"]) and nest["lot"] == inner and nest["old"] is not None
        around = nest["in"]
        swept = False
        while around is not None:
            swept = swept or fates[around["at"]][1]
            around = around["in"]
        nest["at"] = len(fates)
        fates[nest["at"]] = (empty or swept, full)
    rank = 0
    for nest in reversed(old):
        ends, shines = fates[nest["at"]]
        if ends or shines:
            rank = 2 * (many - nest["old"]) - (0 if ends else 1)
    left = [nest for nest in nests if not fates[nest["at"]][0]]
    kept = []
    for nest in left:
        home = None if nest["in"] is None else [at for at, other in enumerate(left) if other is nest["in"]][0]
        kept.append((home, tuple(sorted(nest["lot"]))))
    return ((tuple(sorted(reached)), tuple(kept)), rank), [fates[nest["at"]] for nest in old]


def bad_round(ranks, ahead, again):
    """Whether some endless trace of a round is bad: a state of odd rank comes back to itself through no greater ones."""
    spots = {(-len(ahead), 0)}
    ways = {}
    todo = list(spots)
    while todo:
        at, q = todo.pop()
        step = ahead[at] if at < 0 else again[at]
        behind = 0 if at + 1 == len(again) else at + 1
        ways[(at, q)] = [(behind, r) for p, r in step if p == q]
        for spot in ways[(at, q)]:
            if spot not in spots:
                spots.add(spot)
                todo.append(spot)
    for start in spots:
        top = ranks[start[1]]
        if top % 2 == 0:
            continue
        met, todo = set(), [start]
        while todo:
            for spot in ways[todo.pop()]:
                if ranks[spot[1]] <= top and spot not in met:
                    met.add(spot)
                    todo.append(spot)
        if start in met:
            return True
    return False


class Runners(Case):
    def test_by_hand(self):
        self.assertEqual(runners((1, 2)), ((0, 1),))
        self.assertEqual(runners(ranks=(3, 0, 5, 4)), ((0, 3), (0, 5), (1, 3), (1, 5), (2, 5), (3, 5)))
        self.assertEqual(runners((0, 2, 4)), ())
        self.assertEqual(runners((1, 1)), ((0, 1), (1, 1)))
        self.assertEqual(len(runners((61,) * 24)), 24)

    def test_first(self):
        self.assertEqual(first((1, 2)), ((0,), ()))
        self.assertEqual(first(ranks=(0,) * 24), ((0,), ()))
        self.assertTrue(is_history((1, 2), first((1, 2))))

    def test_errors(self):
        for function in (runners, first):
            for thing in junk_but((0,), (0, 0)):
                self.fails(BadRanks, function, thing)
            for ranks in ((0,) * 25, (62,), ()):
                self.fails(BadRanks, function, ranks)


class IsHistory(Case):
    ranks = (1, 3, 0)

    def test_histories(self):
        for history in (
            ((), ()), ((0, 1, 2), ()), ((0, 1), ((None, ((0, 1),)),)), ((0, 1), ((None, ((0, 1), (1, 3))),)),
            ((0, 1), ((None, ((0, 1), (1, 3))), (0, ((1, 3),)))), ((0, 1), ((None, ((0, 1),)), (None, ((0, 3), (1, 3))))),
            ((0, 1), ((None, ((0, 1), (0, 3), (1, 3))), (0, ((0, 1),)), (0, ((1, 3),)))),
            ((0, 1, 2), ((None, ((0, 3), (1, 3), (2, 3))), (0, ((0, 3), (1, 3))), (1, ((1, 3),)), (None, ((2, 1),)))),
        ):
            self.assertIs(is_history(self.ranks, history), True, history)
        self.assertIs(is_history(ranks=(0,), thing=((0,), ())), True)

    def test_no_histories(self):
        lot = ((0, 1), (1, 3))
        self.none_of(lambda thing: is_history(self.ranks, thing), (
            ((0,),), ((0,), (), ()), [(0,), ()], ([0], ()), ((0,), []), ((0, 0), ()), ((1, 0), ()), ((3,), ()), ((True,), ()),
            ((-1,), ()), ((0.0,), ()), ((0, 1), (None,)), ((0, 1), ((None,),)), ((0, 1), ([None, lot],)),
            ((0, 1), ((None, ()),)), ((0, 1), ((None, list(lot)),)), ((0, 1), ((None, ((1, 3), (0, 1))),)),
            ((0, 1), ((None, ((0, 1), (0, 1))),)), ((0, 1), ((None, ((0, 2),)),)), ((0, 1), ((None, ((1, 1),)),)),
            ((0, 1), ((None, ((0, 5),)),)), ((0, 1), ((None, ((2, 1),)),)), ((0, 1), ((None, ([0, 1],)),)),
            ((0, 1), ((None, ((0, True),)),)), ((0, 1), ((None, ((False, 1),)),)), ((0, 1), ((None, (None,)),)),
            ((0, 1), ((0, lot),)), ((0, 1), ((-1, lot),)), ((0, 1), ((False, lot),)), ((0, 1), (("", lot),)),
            ((0, 1), ((None, lot), (False, ((0, 1),)))), ((0, 1), ((None, lot), (1, ((0, 1),)))),
            ((0, 1), ((1, ((0, 1),)), (None, lot))), ((0, 1), ((None, lot), (0, ((0, 3),)))), ((0, 1), ((None, lot), (0, lot))),
            ((0, 1), ((None, lot), (None, ((1, 3),)))), ((0, 1), ((None, lot), (0, ((0, 1),)), (0, ((1, 3),)))),
            ((0, 1), ((None, ((0.0, 1),)),)), ((0, 1), ((None, ((0, 1.0),)),)), ((0, 1), ((None, lot, ()),)),
            ((0, 1), ((None, ((0, 1, 1),)),)), ((0, 1), ((None, ((0,),)),)),
            ((0, 1), ((None, lot), (0, ((0, 1),)), (0, ((0, 1),)))), ((0, 1), ((None, (((0, 1),), (1, 3))),)),
        ))
        self.none_of(lambda thing: is_history(self.ranks, thing), junk_but())

    def test_no_runner_no_nest(self):
        self.assertTrue(is_history((0, 2), ((0, 1), ())))
        self.assertFalse(is_history((0, 2), ((0, 1), ((None, ((0, 1),)),))))

    def test_errors(self):
        for thing in junk_but((0,), (0, 0)):
            self.fails(BadRanks, is_history, thing, None)


class Led(Case):
    def test_by_hand(self):
        self.assertEqual(led((1, 2), ((0,), ()), A), (ONE, 0))
        self.assertEqual(led(ranks=(1, 2), history=ONE, step=A), (ONE, 1))
        self.assertEqual(led((1, 2), ((0,), ()), B), (((1,), ()), 0))
        self.assertEqual(led((1, 2), ((1,), ()), B), (((0,), ((None, ((0, 1),)),)), 0))
        self.assertEqual(led((1, 2), ((0,), ((None, ((0, 1),)),)), B), (((1,), ()), 2))

    def test_no_step_and_no_runner(self):
        self.assertEqual(led((1, 2), ONE, ()), (((), ()), 2))
        self.assertEqual(led((0, 2), ((0, 1), ()), ((0, 0), (1, 0))), (((0,), ()), 0))

    def test_it_shines_and_ends_within_an_elder_one(self):
        ranks = (1, 0)
        history = ((0, 1), ((None, ((0, 1), (1, 1))), (0, ((1, 1),))))
        self.assertTrue(is_history(ranks, history))
        step = ((0, 0), (1, 0))
        self.assertEqual(led(ranks, history, step), (((0,), ((None, ((0, 1),)),)), 3))
        self.assertEqual(led_by_the_words(ranks, history, step)[1], [(False, True), (True, True)])

    def test_the_first_nest_counts(self):
        ranks = (1, 0, 0)
        history = ((0, 1, 2), ((None, ((1, 1),)), (None, ((0, 1),)), (None, ((2, 1),))))
        self.assertEqual(led(ranks, history, ((0, 0), (1, 1)))[1], 2 * (3 - 1) - 1)
        self.assertEqual(led(ranks, history, ((1, 1), (2, 2)))[1], 2 * (3 - 1))
        self.assertEqual(led(ranks, history, ((0, 0), (2, 2)))[1], 2 * 3)
        self.assertEqual(led(ranks, history, ((0, 2), (1, 1), (2, 1)))[1], 2 * (3 - 2))
        self.assertEqual(led(ranks, history, ((0, 1), (1, 2), (2, 1)))[1], 2 * (3 - 2))

    def test_runners_stay_in_the_elder_nest(self):
        ranks = (1, 0)
        history = ((0, 1), ((None, ((1, 1),)), (None, ((0, 1),))))
        self.assertEqual(led(ranks, history, ((0, 1), (1, 1))), (((1,), ((None, ((1, 1),)),)), 2 * (2 - 1)))

    def test_by_the_words(self):
        chance = dice(60)
        seen = {"end": 0, "shine": 0, "both": 0, "inner": 0}
        for _ in range(250):
            states = chance.randint(1, 4)
            ranks = tuple(chance.randrange(7) for _ in range(states))
            history = first(ranks)
            for _ in range(12):
                step = some_step(chance, states, chance.choice((0.3, 0.5, 0.7)))
                fresh, fates = led_by_the_words(ranks, history, step)
                self.assertEqual(led(ranks, history, step), fresh)
                history = fresh[0]
                self.assertTrue(is_history(ranks, history))
                self.assertTrue(0 <= fresh[1] <= 2 * len(runners(ranks)))
                for ends, shines in fates:
                    seen["both" if ends and shines else "end" if ends else "shine" if shines else "inner"] += 1
        self.assertTrue(all(seen.values()), seen)

    def test_errors_in_order(self):
        for thing in junk_but((0,), (0, 0)):
            self.fails(BadRanks, led, thing, None, None)
        for thing in junk_but():
            self.fails(BadHistory, led, (1, 2), thing, None)
        self.fails(BadHistory, led, (1, 2), ((0, 1), ((None, ((1, 1),)),)), A)
        for thing in (None, [], [(0, 0)], ((0, 2),), ((1, 0), (0, 1)), ((0, 0), (0, 0)), ((True, 0),), 0, (0,)):
            self.fails(BadStep, led, (1, 2), ONE, thing)


class Told(Case):
    def test_by_hand(self):
        self.assertEqual(told((1, 2), ()), (((0,), ()), ()))
        self.assertEqual(told(ranks=(1, 2), steps=(A, A, A)), (ONE, (0, 1, 1)))
        self.assertEqual(told((1, 2), (B,) * 5), (((1,), ()), (0, 0, 2, 0, 2)))

    def test_it_is_led_step_by_step(self):
        chance = dice(61)
        for _ in range(40):
            ranks = tuple(chance.randrange(5) for _ in range(3))
            steps = tuple(some_step(chance, 3, 0.5) for _ in range(chance.randint(0, 6)))
            history, heard = first(ranks), []
            for step in steps:
                history, rank = led(ranks, history, step)
                heard.append(rank)
            self.assertEqual(told(ranks, steps), (history, tuple(heard)))

    def test_200_steps(self):
        self.assertEqual(len(told((1, 2), (A,) * 200)[1]), 200)
        self.fails(BadSteps, told, (1, 2), (A,) * 201)

    def test_errors_in_order(self):
        for thing in junk_but((0,), (0, 0)):
            self.fails(BadRanks, told, thing, None)
        for steps in ([A], A, (A, None), (((0, 2),),), 0, None):
            self.fails(BadSteps, told, (1, 2), steps)


class JudgedRound(Case):
    def test_by_hand(self):
        self.assertEqual(judged_round((1, 2), (), (A,)), (1, 1, 1))
        self.assertEqual(judged_round(ranks=(1, 2), ahead=(), again=(B,)), (1, 2, 2))
        self.assertEqual(judged_round((1, 2), (A,), (A, A)), (0, 1, 1))
        self.assertEqual(judged_round((1, 2), (), ((),)), (1, 1, 0))

    def test_no_runner(self):
        self.assertEqual(judged_round((0, 2), (), (((0, 0), (0, 1), (1, 0)),)), (1, 1, 0))

    def test_24_states(self):
        step = tuple((q, (q + 1) % 24) for q in range(24))
        ranks = tuple(range(24))
        self.assertEqual(judged_round(ranks, (), (step,) * 12)[2] % 2, 1)
        self.assertEqual(judged_round(ranks[::-1], (), (step,) * 12)[2] % 2, 1)
        self.assertEqual(judged_round((*range(23), 24), (), (step,) * 12)[2] % 2, 0)
        self.assertEqual(judged_round((61,) * 24, (step,) * 12, (step,))[2] % 2, 1)

    def test_even_exactly_if_no_trace_is_bad(self):
        chance = dice(62)
        seen = {True: 0, False: 0}
        for _ in range(1200):
            states = chance.randint(1, 5)
            ranks = tuple(chance.randrange(chance.choice((3, 6, 9))) for _ in range(states))
            share = chance.choice((0.15, 0.25, 0.4))
            ahead = tuple(some_step(chance, states, share + 0.2) for _ in range(chance.randint(0, 2)))
            again = tuple(some_step(chance, states, share) for _ in range(chance.randint(1, 3)))
            bad = bad_round(ranks, ahead, again)
            seen[bad] += 1
            self.assertEqual(judged_round(ranks, ahead, again)[2] % 2 == 1, bad, (ranks, ahead, again))
        self.assertGreater(min(seen.values()), 200)

    def test_all_small_rounds(self):
        pairs = ((0, 0), (0, 1), (1, 0), (1, 1))
        steps = [lot for many in range(5) for lot in itertools.combinations(pairs, many)]
        for ranks in itertools.product(range(4), repeat=2):
            for one, other in itertools.product(steps, repeat=2):
                self.assertEqual(judged_round(ranks, (), (one, other))[2] % 2 == 1, bad_round(ranks, (), (one, other)))

    def test_the_first_history_that_stands_anew(self):
        chance = dice(63)
        for _ in range(150):
            ranks = tuple(chance.randrange(6) for _ in range(4))
            ahead = tuple(some_step(chance, 4, 0.5) for _ in range(chance.randint(0, 2)))
            again = tuple(some_step(chance, 4, 0.35) for _ in range(chance.randint(1, 3)))
            m, n, rank = judged_round(ranks, ahead, again)
            steps = ahead + again * (m + n)
            histories = [told(ranks, ahead + again * times)[0] for times in range(m + n + 1)]
            self.assertEqual(histories[m], histories[m + n])
            self.assertGreater(n, 0)
            for at, history in enumerate(histories[:-1]):
                self.assertNotIn(history, histories[:at])
            self.assertEqual(rank, max(told(ranks, steps)[1][len(ahead) + m * len(again):]))

    def test_how_many_steps(self):
        self.assertEqual(judged_round((1, 2), (A,) * 12, (A,) * 12), (0, 1, 1))
        self.fails(BadAhead, judged_round, (1, 2), (A,) * 13, (A,))
        self.fails(BadAgain, judged_round, (1, 2), (), (A,) * 13)
        self.fails(BadAgain, judged_round, (1, 2), (), ())

    def test_errors_in_order(self):
        for thing in junk_but((0,), (0, 0)):
            self.fails(BadRanks, judged_round, thing, None, None)
        for thing in ([], [A], (None,), A, (((0, 2),),), None, 0, "", (A, [(0, 0)])):
            self.fails(BadAhead, judged_round, (1, 2), thing, None)
            self.fails(BadAhead, judged_round, (1, 2), thing, (A,))
            self.fails(BadAgain, judged_round, (1, 2), (), thing)
