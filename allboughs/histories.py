"""Histories: what is kept of all traces along a road, so that a rank tells whether all of them are good."""

from allboughs.checks import ascends, is_number, is_numbers, is_row
from allboughs.errors import BadAgain, BadAhead, BadHistory, BadStep
from allboughs.steps import are_steps, check_ranks, check_steps, is_step_of

MOST_ROUNDS = 12
FIRST = ((0,), ())


def runners_of(ranks):
    """The runners of what is known to be ranks."""
    odd = sorted({rank for rank in ranks if rank % 2})
    return tuple([(state, limit) for state, rank in enumerate(ranks) for limit in odd if limit >= rank])


def runners(ranks):
    """The ascending tuple of the runners of ranks."""
    check_ranks(ranks)
    return runners_of(ranks)


def is_nest(thing, at, known):
    """Whether it looks like the nest with this number, of the known runners, whatever the others are."""
    if not is_row(thing, 2, 2):
        return False
    home, lot = thing
    if home is not None and not is_number(home, at):
        return False
    if not isinstance(lot, tuple) or not lot or not all(is_row(runner, 2, 2) for runner in lot):
        return False
    if not all(isinstance(number, int) and not isinstance(number, bool) for runner in lot for number in runner):
        return False
    return all(runner in known for runner in lot) and ascends(lot)


def are_nested(nests):
    """Whether the lots of nests are parts of those in which they lie, share nothing, and leave something over."""
    taken = [{} for _ in nests]
    outer = {}
    for home, lot in nests:
        aside = outer if home is None else taken[home]
        if any(runner in aside for runner in lot):
            return False
        if home is not None and not all(runner in nests[home][1] for runner in lot):
            return False
        for runner in lot:
            aside[runner] = True
    return all(len(inner) < len(lot) for inner, (_, lot) in zip(taken, nests))


def is_history_of(ranks, thing):
    """Whether it is a history of what is known to be ranks."""
    if not is_row(thing, 2, 2) or not is_numbers(thing[0], len(ranks)):
        return False
    reached, nests = thing
    all_runners = runners_of(ranks)
    if not is_row(nests, 0, len(all_runners)):
        return False
    known = {runner: True for runner in all_runners if runner[0] in reached}
    return all(is_nest(nest, at, known) for at, nest in enumerate(nests)) and are_nested(nests)


def is_history(ranks, thing):
    """Whether a value of any kind is a history of these ranks."""
    check_ranks(ranks)
    return is_history_of(ranks, thing)


def first(ranks):
    """The history ahead of all steps."""
    check_ranks(ranks)
    return FIRST


def led_lot(ranks, lot, goals):
    """The runners, as a dict, to which the runners of a lot are led."""
    return {(goal, limit): True for state, limit in lot for goal in goals.get(state, ()) if ranks[goal] <= limit}


def with_births(ranks, nests, goals, reached):
    """The nests led on and, behind them, those that are born: where each lies, and its lot as a dict."""
    homes = [home for home, _ in nests]
    lots = [led_lot(ranks, lot, goals) for _, lot in nests]
    born = [{(state, limit): True for state, limit in lot if ranks[state] == limit} for lot in lots]
    homes.append(None)
    lots.append({(state, ranks[state]): True for state in reached if ranks[state] % 2})
    homes.extend(list(range(len(nests))))
    lots.extend(born)
    return homes, lots


def kept_apart(homes, lots):
    """The lots without the runners that are not in the nest around, or are in an elder nest beside."""
    kept = []
    taken = [{} for _ in homes]
    outer = {}
    for home, lot in zip(homes, lots):
        aside = outer if home is None else taken[home]
        stay = {runner: True for runner in lot if runner not in aside and (home is None or runner in kept[home])}
        for runner in stay:
            aside[runner] = True
        kept.append(stay)
    return kept


def fates(homes, lots, elder):
    """For each nest whether it ends, and whether it shines; so many of them were there ahead of the step."""
    inner = [0] * len(lots)
    for home, lot in zip(homes, lots):
        if home is not None:
            inner[home] += len(lot)
    ends = []
    shines = []
    for at, (home, lot) in enumerate(zip(homes, lots)):
        swept = home is not None and (ends[home] or shines[home])
        ends.append(swept or not lot)
        shines.append(at < elder and len(lot) > 0 and inner[at] == len(lot))
    return ends, shines


def rank_told(ends, shines, elder, many):
    """The rank for the first nest, of those there ahead of the step, that ends or shines."""
    for at in range(elder):
        if ends[at]:
            return 2 * (many - at)
        if shines[at]:
            return 2 * (many - at) - 1
    return 0


def nests_left(homes, lots, ends):
    """The nests that do not end, in their sequence, as a history has them."""
    numbers = {None: None}
    nests = []
    for at, home in enumerate(homes):
        if not ends[at]:
            numbers[at] = len(nests)
            nests.append((numbers[home], tuple(sorted(lots[at]))))
    return tuple(nests)


def lead(ranks, many, history, step):
    """The history behind a step and the rank told, where many is the number of runners of the ranks."""
    goals = {}
    for state, goal in step:
        goals.setdefault(state, []).append(goal)
    nests = history[1]
    reached = sorted({goal for state in history[0] for goal in goals.get(state, ())})
    homes, led_lots = with_births(ranks, nests, goals, reached)
    lots = kept_apart(homes, led_lots)
    ends, shines = fates(homes, lots, len(nests))
    rank = rank_told(ends, shines, len(nests), many)
    return (tuple(reached), nests_left(homes, lots, ends)), rank


def led(ranks, history, step):
    """The pair of the history behind a step and the rank that is told."""
    check_ranks(ranks)
    if not is_history_of(ranks, history):
        raise BadHistory("not a history")
    if not is_step_of(step, len(ranks)):
        raise BadStep("not a step")
    return lead(ranks, len(runners_of(ranks)), history, step)


def lead_all(ranks, many, history, steps):
    """The history behind all steps and the list of the ranks told."""
    heard = []
    for step in steps:
        history, rank = lead(ranks, many, history, step)
        heard.append(rank)
    return history, heard


def told(ranks, steps):
    """The pair of the history behind all steps and the tuple of the ranks told."""
    check_steps(ranks, steps)
    history, heard = lead_all(ranks, len(runners_of(ranks)), FIRST, steps)
    return history, tuple(heard)


def judged_round(ranks, ahead, again):
    """How often again is gone until a history stands anew, and the greatest rank told between."""
    check_ranks(ranks)
    if not are_steps(ahead, len(ranks), 0, MOST_ROUNDS):
        raise BadAhead("not a tuple of 0 to 12 steps")
    if not are_steps(again, len(ranks), 1, MOST_ROUNDS):
        raise BadAgain("not a tuple of 1 to 12 steps")
    many = len(runners_of(ranks))
    history, _ = lead_all(ranks, many, FIRST, ahead)
    met = {}
    tops = []
    while history not in met:
        met[history] = len(tops)
        history, heard = lead_all(ranks, many, history, again)
        tops.append(max(heard))
    begun = met[history]
    return (begun, len(tops) - begun, max(tops[begun:]))
