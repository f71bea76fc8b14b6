"""Roads on which a maker keeps one wish and does not keep another one."""

from allboughs.circles import Walk


class Pursuit:
    """The pairs of a kept history of the one wish and a state of the other one, by numbers.

    steps has for each of them the steps (goal, rank, other, letter, way): to which pair a letter, put by a maker
    that keeps the one wish, and a way may lead, which rank the history tells of it, and which one the state behind has.
    """

    def __init__(self, game, states):
        """Meet the pairs at once, told the game of the one wish and the states of the other one."""
        self.game = game
        self.states = states
        self.pairs = [(0, 0)]
        self.numbers = {(0, 0): 0}
        self.steps = []
        while len(self.steps) < len(self.pairs):
            self.steps.append(self.steps_from(len(self.steps)))
        all_steps = [step for steps in self.steps for step in steps]
        self.tops = (max([step[1] for step in all_steps], default=0), max([step[2] for step in all_steps], default=0))

    def steps_from(self, at):
        """The steps from a pair; of several that differ in the letter and the way alone the first one."""
        history, state = self.pairs[at]
        found = {}
        for letter, leads in enumerate(self.game.onward[history]):
            if self.game.is_allowed(history, letter):
                for way, (onward, rank) in enumerate(leads):
                    for goal in self.states[state][1][letter][way]:
                        pair = self.number((onward, goal))
                        found.setdefault((pair, rank), (pair, rank, self.states[goal][0], letter, way))
        return list(found.values())

    def number(self, pair):
        """The number of a pair, which is met now if it was not met yet."""
        if pair not in self.numbers:
            self.numbers[pair] = len(self.pairs)
            self.pairs.append(pair)
        return self.numbers[pair]

    def steps_within(self, at, inside, caps):
        """The steps from a pair to one that is inside, with ranks that are not above the caps."""
        return [
            step for step in self.steps[at] if step[0] in inside and step[1] <= caps[0] and step[2] <= caps[1]
        ]

    def clump(self):
        """A clump of pairs, as a dict, and caps: the greatest rank of histories, even, and of states, odd.

        None if there is none: what no round of this kind can go through is left out again and again.
        """
        todo = [({at: True for at in range(len(self.pairs))}, self.tops)]
        while todo:
            inside, caps = todo.pop()
            goals = {at: [step[0] for step in self.steps_within(at, inside, caps)] for at in inside}
            for rows in Walk(list(inside), goals).clumps:
                held = {at: True for at in rows}
                steps = [step for at in held for step in self.steps_within(at, held, caps)]
                tops = (max([step[1] for step in steps]), max([step[2] for step in steps]))
                even = max([step[1] for step in steps if step[1] % 2 == 0], default=-1)
                odd = max([step[2] for step in steps if step[2] % 2 == 1], default=-1)
                if tops == (even, odd):
                    return held, tops
                if even >= 0 and odd >= 0:
                    todo.append((held, (even, odd)))
        return None

    def path(self, start, goal, inside, caps):
        """The shortest row of steps from the one pair to the other one, each behind the pair where it begins."""
        origins = {start: None}
        order = [start]
        at = 0
        while goal not in origins:
            here = order[at]
            at += 1
            for step in self.steps_within(here, inside, caps):
                if step[0] not in origins:
                    origins[step[0]] = (here, step)
                    order.append(step[0])
        told = []
        while origins[goal] is not None:
            told.append(origins[goal])
            goal = origins[goal][0]
        return told[::-1]

    def triples(self, path):
        """The triples (history, letter, way) of a row of steps."""
        return [(self.pairs[at][0], step[3], step[4]) for at, step in path]

    def found_road(self):
        """Two lists of triples (history, letter, way): a road ahead, and one around; None if there is none."""
        found = self.clump()
        if found is None:
            return None
        inside, caps = found
        steps = [(at, step) for at in inside for step in self.steps_within(at, inside, caps)]
        # A step that tells both greatest ranks, if there is one, makes the way around the shortest.
        first = max(steps, key=lambda step: (step[1][1] == caps[0], step[1][2] == caps[1]))
        loop = [first]
        if first[1][2] != caps[1]:
            second = max(steps, key=lambda step: step[1][2])
            loop = [first, *self.path(first[1][0], second[0], inside, caps), second]
        loop = loop + self.path(loop[-1][1][0], first[0], inside, caps)
        everywhere = {at: True for at in range(len(self.pairs))}
        lead = self.path(0, first[0], everywhere, self.tops)
        return self.triples(lead), self.triples(loop)
