"""Likeness of the states of a machine, and machines melted: of alike states one alone stays."""

from allboughs.checks import ascends, is_numbers
from allboughs.conditions import goals, moved
from allboughs.machines import check_machine, press, told_machine
from allboughs.models import least_of, models_of, written

WAYS = 2


def models_of_all(machine):
    """For each state of a machine the models of its conditions, letter by letter."""
    return [[models_of(condition) for condition in conditions] for _, conditions in machine[2]]


def told_by_lots(models, lots):
    """What models say of the lots of states, told by masks: alike ones tell the same."""
    masks = []
    for model in models:
        mask = 0
        for way, state in model:
            mask |= 1 << (WAYS * lots[state] + way)
        masks.append(mask)
    return tuple(least_of(masks))


def is_likeness(machine, thing):
    """Whether a value of any kind is a likeness of a machine."""
    check_machine(machine)
    rows = machine[2]
    all_models = models_of_all(machine)
    if not isinstance(thing, tuple) or not all(is_numbers(lot, len(rows)) and lot for lot in thing):
        return False
    if not ascends(thing) or sorted([state for lot in thing for state in lot]) != list(range(len(rows))):
        return False
    lots = {state: at for at, lot in enumerate(thing) for state in lot}
    for lot in thing:
        signs = [(rows[state][0], [told_by_lots(models, lots) for models in all_models[state]]) for state in lot]
        if any(sign != signs[0] for sign in signs):
            return False
    return True


class Lots:
    """The lots of a machine's states, made of those of equal ranks by parting what is not alike again and again.

    A lot that is parted keeps its number for the greatest of its parts, so that few states are asked anew.
    """

    def __init__(self, rows, all_models):
        """Part at once until all states of each lot are alike."""
        self.all_models = all_models
        self.lots = {}
        self.members = {}
        self.sources = [[] for _ in rows]
        for state, (_, conditions) in enumerate(rows):
            for goal in sorted({goal for condition in conditions for _, goal in goals(condition)}):
                self.sources[goal].append(state)
        by_rank = {}
        for state, (rank, _) in enumerate(rows):
            by_rank.setdefault(rank, []).append(state)
        for lot, states in enumerate(list(by_rank.values())):
            self.gather(lot, states)
        self.signs = {}
        todo = list(range(len(rows)))
        while todo:
            todo = self.part(todo)

    def gather(self, lot, states):
        """Put states in a lot."""
        self.members[lot] = states
        for state in states:
            self.lots[state] = lot

    def part(self, asked):
        """Part the lots of the asked states; told are the states to ask now."""
        for state in asked:
            self.signs[state] = tuple([told_by_lots(models, self.lots) for models in self.all_models[state]])
        moved_states = []
        for lot in sorted({self.lots[state] for state in asked}):
            parts = {}
            for state in self.members[lot]:
                parts.setdefault(self.signs[state], []).append(state)
            states = sorted(list(parts.values()), key=len)
            self.gather(lot, states.pop())
            for part in states:
                self.gather(len(self.members), part)
                moved_states.extend(part)
        return sorted({source for state in moved_states for source in self.sources[state]})

    def told_lots(self):
        """The lots, ascending."""
        return tuple(sorted([tuple(sorted(states)) for states in self.members.values()]))


def likeness(machine):
    """The likeness of a machine with the fewest lots."""
    check_machine(machine)
    return Lots(machine[2], models_of_all(machine)).told_lots()


def written_rows(rows):
    """The states with each condition written from its models."""
    all_models = [(rank, [models_of(condition) for condition in conditions]) for rank, conditions in rows]
    return [(rank, tuple([written(models) for models in row])) for rank, row in all_models]


def turn(machine):
    """A machine behind one turn of melting."""
    rows = written_rows(machine[2])
    lots = Lots(rows, models_of_all(("machine", machine[1], rows))).told_lots()
    stays = {state: lot[0] for lot in lots for state in lot}
    kept = sorted([lot[0] for lot in lots])
    numbers = {state: at for at, state in enumerate(kept)}
    new = [numbers[stays[state]] for state in range(len(rows))]
    fewer = [(rows[state][0], [moved(condition, new) for condition in rows[state][1]]) for state in kept]
    return told_machine(press(machine[1], written_rows(fewer), 0))


def melted(machine):
    """The machine behind as many turns, two at least, as leave fewer states."""
    check_machine(machine)
    ahead = turn(machine)
    told = turn(ahead)
    while len(told[2]) < len(ahead[2]):
        ahead = told
        told = turn(ahead)
    return told
