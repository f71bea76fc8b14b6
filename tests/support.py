"""What the tests share: odd values, things made by chance, and judges that know nothing of the program."""

import itertools
import random
import unittest


class Alike:
    """A value that says of each other one that it is equal to it."""

    __hash__ = None

    def __eq__(self, other):
        return True


def deep(many):
    """A tuple in a tuple in a tuple .."""
    thing = ()
    for _ in range(many):
        thing = (thing,)
    return thing


def doubled(word, leaf, many):
    """A small thing that has 2 ** many leaves as they are counted."""
    thing = leaf
    for _ in range(many):
        thing = (word, thing, thing)
    return thing


JUNK = (
    None, True, False, 0, 1, -1, 1.0, 2.5, "", "x", "wood", "yes", b"x", [], {}, set(), object, Alike(), (), (0,),
    (0, 0), ((),), ((0, 0),), ("x",), ("yes",), ["yes"], ("wood",), ("machine", (), ()), ("choices", (), ()),
    ("wood", (), ()), (Alike(), Alike()), (Alike(), Alike(), Alike()), (True, ("yes",)), deep(5), deep(50000),
    doubled("both", ("yes",), 29), doubled("both", ("sub", "x", "y"), 60), ("not", deep(50000)), float("nan"), range(3),
)


def junk_but(*fits):
    """The odd values without those that fit here."""
    return [thing for thing in JUNK if not any(thing.__class__ is fit.__class__ and thing == fit for fit in fits)]


class Case(unittest.TestCase):
    """A test case that can ask for an error of one class and none below it."""

    def fails(self, error, function, *args, **named):
        """Raise a failure unless the function raises just this error; told is the error."""
        with self.assertRaises(error) as caught:
            function(*args, **named)
        self.assertIs(caught.exception.__class__, error)
        return caught.exception

    def many(self, most, function, *args):
        """Raise a failure unless the function raises TooMany(most)."""
        from allboughs.errors import TooMany

        self.assertEqual(self.fails(TooMany, function, *args).most, most)

    def none_of(self, judge, things):
        """Raise a failure if the judge takes one of the things."""
        for at, thing in enumerate(things):
            with self.subTest(at=at):
                self.assertIs(judge(thing), False)


def bits(scope):
    """The letters of a scope, by the sums that order them."""
    told = []
    for number in range(2 ** len(scope)):
        told.append(tuple(name for at, name in enumerate(scope) if number // 2 ** at % 2))
    return told


# Things made by chance.

def some_wood_of(dice, scope, many):
    """A wood of so many nodes, not all of which need be come to."""
    known = bits(scope)
    rows = [(dice.choice(known), dice.randrange(many), dice.randrange(many)) for _ in range(many)]
    return ("wood", scope, tuple(rows))


def some_condition(dice, states, deepest):
    """A condition with goes to so many states."""
    word = dice.choice(("go", "go", "both", "either", "both", "either", "yes", "no") if deepest > 1 else ("go",))
    if word == "go":
        return ("go", dice.randrange(2), dice.randrange(states))
    if word in ("yes", "no"):
        return (word,)
    return (word, some_condition(dice, states, deepest - 1), some_condition(dice, states, deepest - 1))


def some_machine(dice, scope, many, ranks, deepest=3):
    """A machine of so many states with ranks below a number."""
    rows = []
    for _ in range(many):
        row = tuple(some_condition(dice, many, deepest) for _ in range(2 ** len(scope)))
        rows.append((dice.randrange(ranks), row))
    return ("machine", scope, tuple(rows))


def some_choices(dice, scope, many, ranks, most=2):
    """Choices of so many states with ranks below a number."""
    pairs = list(itertools.product(range(many), repeat=2))
    rows = []
    for _ in range(many):
        lists = []
        for _ in range(2 ** len(scope)):
            lists.append(tuple(sorted(dice.sample(pairs, dice.randint(0, min(most, len(pairs)))))))
        rows.append((dice.randrange(ranks), tuple(lists)))
    return ("choices", scope, tuple(rows))


def some_step(dice, states, share):
    """A step in which each pair of states stands with this chance."""
    pairs = itertools.product(range(states), repeat=2)
    return tuple(pair for pair in pairs if dice.random() < share)


# Judges.

def held(condition, has):
    """Whether a condition holds, if has tells whether a pair is in the lot."""
    word = condition[0]
    if word == "go":
        return has(condition[1], condition[2])
    if word in ("both", "either"):
        join = all if word == "both" else any
        return join([held(part, has) for part in condition[1:]])
    return word == "yes"


def kept_spots(spots, rank, fine):
    """The spots from which the keeper wins, by least and greatest lots, one within the other.

    fine(spot, lot) tells whether the keeper can make one step from the spot into the lot.
    """
    ranks = sorted({rank(spot) for spot in spots}, reverse=True)
    lots = {}

    def level(at):
        if at == len(ranks):
            return {spot for spot in spots if fine(spot, lots[rank(spot)])}
        lot = set() if ranks[at] % 2 else set(spots)
        while True:
            lots[ranks[at]] = lot
            fresh = level(at + 1)
            if fresh == lot:
                return lot
            lot = fresh

    return level(0)


def machine_keeps(machine, wood):
    """The pairs (node, state) from which a machine lets the tree at the node by."""
    numbers = {letter: at for at, letter in enumerate(bits(machine[1]))}
    spots = [(node, q) for node in range(len(wood[2])) for q in range(len(machine[2]))]

    def fine(spot, lot):
        letter, *goals = wood[2][spot[0]]
        return held(machine[2][spot[1]][1][numbers[letter]], lambda way, q: (goals[way], q) in lot)

    return kept_spots(spots, lambda spot: machine[2][spot[1]][0], fine)


def machine_lets(machine, wood):
    """Whether a machine lets a wood by."""
    return (0, 0) in machine_keeps(machine, wood)


def choices_keep(choices, wood):
    """The pairs (node, state) from which there is a good run."""
    numbers = {letter: at for at, letter in enumerate(bits(choices[1]))}
    spots = [(node, q) for node in range(len(wood[2])) for q in range(len(choices[2]))]

    def fine(spot, lot):
        letter, left, right = wood[2][spot[0]]
        pairs = choices[2][spot[1]][1][numbers[letter]]
        return any((left, one) in lot and (right, other) in lot for one, other in pairs)

    return kept_spots(spots, lambda spot: choices[2][spot[1]][0], fine)


def choices_let(choices, wood):
    """Whether choices let a wood by."""
    return (0, 0) in choices_keep(choices, wood)


def useful_states(choices):
    """The states of choices from which some tree is let by."""
    spots = range(len(choices[2]))

    def fine(spot, lot):
        return any(left in lot and right in lot for pairs in choices[2][spot][1] for left, right in pairs)

    return kept_spots(spots, lambda spot: choices[2][spot][0], fine)


def letters_to(wood, ways):
    """The letters of a wood at all places of at most so many ways, by place."""
    told = {}
    for many in range(ways + 1):
        for place in itertools.product((0, 1), repeat=many):
            node = 0
            for way in place:
                node = wood[2][node][1 + way]
            told[place] = wood[2][node][0]
    return told


def alike(one, other):
    """Whether two woods tell one tree: so many ways are enough to tell unlike ones apart."""
    pairs = [(0, 0)]
    for left, right in pairs:
        if one[2][left][0] != other[2][right][0]:
            return False
        for way in (1, 2):
            pair = (one[2][left][way], other[2][right][way])
            if pair not in pairs:
                pairs.append(pair)
    return True


def dice(seed):
    """A source of chance that is the same each time."""
    return random.Random(seed)
