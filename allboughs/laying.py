"""Layings: which states lead to which, from node to node, where a wood is let by."""

from allboughs.checks import is_pairs, is_row
from allboughs.circles import has_round
from allboughs.conditions import holds_by, is_joint
from allboughs.errors import BadPlan
from allboughs.playing import board_of, is_plan_from_start


def is_laid_pair(thing, states):
    """Whether it is a pair of ascending tuples of pairs of states."""
    return is_row(thing, 2, 2) and is_pairs(thing[0], states, states) and is_pairs(thing[1], states, states)


def leads_of(thing):
    """For each node and each state that leads on from it the pairs (way, state) to which it leads."""
    leads = {}
    for node, sides in enumerate(thing):
        for way, pairs in enumerate(sides):
            for state, goal in pairs:
                leads.setdefault((node, state), []).append((way, goal))
    return leads


def walk_laid(board, leads):
    """The pairs (node, state) to which one comes by a laying, and the numbers of the pairs to which each leads.

    None if a condition does not hold.
    """
    spots = [(0, 0)]
    numbers = {(0, 0): 0}
    goals = []
    while len(goals) < len(spots):
        node, state = spots[len(goals)]
        lot = leads.get((node, state), [])
        if not holds_by(board.states[state][1][board.nodes[node][0]], {pair: True for pair in lot}):
            return None
        row = []
        for way, goal in lot:
            spot = (board.nodes[node][1 + way], goal)
            if spot not in numbers:
                numbers[spot] = len(spots)
                spots.append(spot)
            row.append(numbers[spot])
        goals.append(row)
    return spots, goals


def is_laid(machine, wood, thing):
    """Whether a value of any kind is a laying."""
    board = board_of(machine, wood)
    if not is_row(thing, len(wood[2]), len(wood[2])):
        return False
    if not all(is_laid_pair(pair, len(machine[2])) for pair in thing):
        return False
    walk = walk_laid(board, leads_of(thing))
    if walk is None:
        return False
    spots, goals = walk
    return not has_round([machine[2][state][0] for _, state in spots], goals, 1)


def goes_taken(board, at, picks):
    """The pairs (way, state) of the goes, and the numbers of the standings, to which a plan comes from one of a state.

    picks tells the goal of each row of the plan, None for rows of the breaker.
    """
    taken = []
    goals = []
    todo = [(board.goals[at][0], board.conditions[at])]
    while todo:
        spot, condition = todo.pop()
        if condition[0] == "go":
            taken.append((condition[1], condition[2]))
            goals.append(spot)
        elif is_joint(condition):
            leads = board.goals[spot]
            for part, onward in ((condition[1], leads[0]), (condition[2], leads[-1])):
                if picks[spot] is None or picks[spot] == onward:
                    todo.append((onward, part))
    return taken, goals


def laid(machine, wood, plan):
    """The laying that a plan of the keeper makes."""
    board = board_of(machine, wood)
    if not is_plan_from_start(board.told_game(), 0, plan):
        raise BadPlan("not a plan of the keeper with row 0 in it")
    picks = {row: goal for row, goal in plan[2]}
    sides = [({}, {}) for _ in wood[2]]
    order = [0]
    met = {0: True}
    at = 0
    while at < len(order):
        node, state = board.state_at(order[at])
        taken, goals = goes_taken(board, order[at], picks)
        at += 1
        for way, goal in taken:
            sides[node][way][(state, goal)] = True
        for goal in goals:
            if goal not in met:
                met[goal] = True
                order.append(goal)
    return tuple([(tuple(sorted(left)), tuple(sorted(right))) for left, right in sides])
