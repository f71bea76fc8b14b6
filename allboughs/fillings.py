"""How many sets make a formula hold on a wood: all of them, or endless many."""

from allboughs.circles import Walk
from allboughs.choices import told_choices
from allboughs.compiling import build_choices
from allboughs.deciding import check_binder, check_marks, cut_down
from allboughs.errors import TooMany
from allboughs.markings import Marks, Trees
from allboughs.woods import MOST_NODES

MOST_STANDINGS = 400
MOST_FILLINGS = 64


class Fillings:
    """The marks told by standings of use, and which of these tell several.

    The tree of a standing is that of its pick. If all its moves tell this tree, and all standings below tell but one
    each, it tells no other one.
    """

    def __init__(self, marks):
        """Look at the standings of use at once."""
        self.moves = marks.moves
        self.trees = Trees(marks.picks)
        own = [self.trees.sign(pick) for pick in marks.picks]
        self.loose = {}
        for at, moves in enumerate(self.moves):
            if any(self.trees.sign(move) != own[at] for move in moves):
                self.loose[at] = [move for move in moves if self.trees.sign(move) != own[at]][0]
        self.several = self.above(list(self.loose))

    def above(self, standings):
        """The standings, as a dict, from which one comes to one of these, themselves among them."""
        sources = [[] for _ in self.moves]
        for at, moves in enumerate(self.moves):
            for _, left, right in moves:
                sources[left].append(at)
                sources[right].append(at)
        found = {at: True for at in standings}
        todo = list(standings)
        while todo:
            at = todo.pop()
            for source in sources[at]:
                if source not in found:
                    found[source] = True
                    todo.append(source)
        return found

    def coming_back(self):
        """The standings that tell several trees and from which a way leads back to them, ascending."""
        goals = [[goal for move in moves for goal in move[1:]] for moves in self.moves]
        clumps = Walk(list(range(len(goals))), goals).clumps
        return sorted([at for clump in clumps for at in clump if at in self.several])

    def trees_at(self, at, told):
        """The numbers of the trees of a standing, where told has those of the standings below that tell several."""
        found = {}
        for letter, left, right in self.moves[at]:
            mine = told.get(left, [self.trees.roots[left]])
            theirs = told.get(right, [self.trees.roots[right]])
            if len(mine) * len(theirs) > MOST_FILLINGS:
                raise TooMany(MOST_FILLINGS)
            for one in mine:
                for other in theirs:
                    found[self.trees.number((letter, one, other))] = True
        if len(found) > MOST_FILLINGS:
            raise TooMany(MOST_FILLINGS)
        return list(found)

    def all_trees(self):
        """The numbers of all trees, if no standing that tells several leads back to itself."""
        told = {}
        todo = [0]
        while todo:
            at = todo[-1]
            below = [goal for move in self.moves[at] for goal in move[1:] if goal in self.several]
            waiting = [goal for goal in below if goal not in told]
            if waiting:
                todo.extend(waiting)
            else:
                told[todo.pop()] = self.trees_at(at, told)
        return told[0]

    def steps_to(self, start, goals, inside):
        """The steps, one at least, from a standing to the nearest of goals: moves, each with the way that is taken.

        Behind the first standing they go through those alone that are inside.
        """
        origins = {}
        order = [start]
        found = None
        at = 0
        while found is None:
            here = order[at]
            at += 1
            for move in self.moves[here]:
                for way, goal in enumerate(move[1:]):
                    if goal in inside and goal not in origins:
                        origins[goal] = (here, move, way)
                        order.append(goal)
                        if goal in goals and found is None:
                            found = goal
        steps = []
        while not steps or found != start:
            found, move, way = origins[found]
            steps.append((move, way))
        return steps[::-1]

    def laid_on(self, steps, number):
        """The number of the tree that begins with these steps, where the tree with this number stands behind them."""
        for move, way in steps[::-1]:
            letter, left, right = self.trees.sign(move)
            number = self.trees.number((letter, left, number) if way else (letter, number, right))
        return number

    def another(self, at):
        """The number of a tree of a standing that tells several, unlike that of its pick."""
        steps = [] if at in self.loose else self.steps_to(at, self.loose, self.several)
        end = at
        if steps:
            move, way = steps[-1]
            end = move[1 + way]
        return self.laid_on(steps, self.trees.number(self.trees.sign(self.loose[end])))

    def instead(self, at, step, number):
        """The numbers of trees that begin with moves from a standing which lead to where the step does.

        The tree with this number stands there.
        """
        move, way = step
        found = []
        for letter, left, right in self.moves[at]:
            goal, aside = (right, left) if way else (left, right)
            if goal == move[1 + way]:
                asides = [self.trees.roots[aside]]
                if aside in self.several:
                    asides.append(self.another(aside))
                for tree in asides:
                    found.append(self.trees.number((letter, tree, number) if way else (letter, number, tree)))
        return found

    def beside(self, at, trunk, crown):
        """The number of a tree that goes as the trunk does back to the crown, but is unlike it as early as can be.

        The trunk is laid on the crown, which is itself again so. None if there is no such tree.
        """
        for many, step in enumerate(trunk):
            here = self.laid_on(trunk[many:], crown)
            others = self.instead(at, step, self.laid_on(trunk[many + 1:], crown))
            for other in others:
                if other != here:
                    return self.laid_on(trunk[:many], other)
            move, way = step
            at = move[1 + way]
        return None

    def endless(self, at):
        """The nodes of a filling with a trunk from this standing back to it, and the places of both its ends."""
        everywhere = {goal: True for goal in range(len(self.moves))}
        trunk = self.steps_to(at, {at: True}, everywhere)
        road = self.steps_to(0, {at: True}, everywhere) if at else []
        # Just one tree is itself again below the trunk, and this one would never come to an end of the trunk.
        crown = self.trees.roots[at]
        tree = self.laid_on(trunk, crown)
        if tree == crown:
            tree = self.beside(at, trunk, crown)
        if tree is None:
            tree = self.laid_on(trunk, self.another(at))
        rows = self.trees.least_rows(self.laid_on(road, tree))
        high = tuple([way for _, way in road])
        return rows, high, high + tuple([way for _, way in trunk])


def fillings(formula, wood):
    """("all", woods) with a wood for each set that makes the formula hold, or ("endless", filled, high, low)."""
    _, scope, part, name = check_binder(formula, ("some",))
    check_marks(scope, wood)
    choices = told_choices(build_choices(part))
    base = cut_down(wood, scope)
    if len(base[2]) * len(choices[2]) > MOST_STANDINGS:
        raise TooMany(MOST_STANDINGS)
    marks = Marks(choices, base, name)
    if not marks.order:
        return ("all", ())
    found = Fillings(marks)
    back = found.coming_back()
    for at in back:
        rows, high, low = found.endless(at)
        if len(rows) <= MOST_NODES:
            return ("endless", ("wood", choices[1], rows), high, low)
    if back:
        raise TooMany(MOST_NODES)
    woods = [("wood", choices[1], found.trees.least_rows(number)) for number in found.all_trees()]
    if any(len(told[2]) > MOST_NODES for told in woods):
        raise TooMany(MOST_NODES)
    return ("all", tuple(sorted(woods)))
