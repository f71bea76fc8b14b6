"""Papers: finite plans by which a small judge sees whether the marks of a wood have a formula."""

from allboughs.checks import is_row
from allboughs.compiling import machine_in
from allboughs.deciding import ONE_PLACE, TRUTHS, check_marks
from allboughs.errors import BadPaper, BadSentence
from allboughs.formulas import check_no_long, tree_of_no_long
from allboughs.grafting import left_out
from allboughs.playing import MOST_STANDINGS, WORDS, Board, is_verdict_in, verdict_on


def board_of_marks(formula, wood):
    """The board of a formula and a wood, whose further names are left out; all errors are raised here."""
    tree = check_no_long(formula)
    check_marks(tree[1], wood)
    names = tuple([name for name in wood[1] if name not in tree[1]])
    return Board(machine_in(tree), left_out(wood, names) if names else wood, MOST_STANDINGS)


def paper_of(formula, wood):
    """("yes", a plan of the keeper) or ("no", a plan of the breaker)."""
    return verdict_on(board_of_marks(formula, wood))


def is_paper(formula, wood, thing):
    """Whether a value of any kind is a paper."""
    return is_verdict_in(board_of_marks(formula, wood).told_game(), thing)


def is_answer(sentence, thing):
    """Whether a value of any kind is ("true", plan) or ("false", plan) with a plan by which it is so."""
    tree = tree_of_no_long(sentence)
    if tree is None or tree[1]:
        raise BadSentence("not a sentence without shorts")
    game = Board(machine_in(tree), ONE_PLACE, MOST_STANDINGS).told_game()
    if not is_row(thing, 2, 2) or not isinstance(thing[0], str):
        return False
    words = [word for word in WORDS if TRUTHS[word] == thing[0]]
    return len(words) == 1 and is_verdict_in(game, (words[0], thing[1]))


def standings_of(formula, wood):
    """How many rows the game of a formula and a wood has."""
    return len(board_of_marks(formula, wood).codes)


def pared(formula, wood, paper):
    """The paper without the moves to whose rows one does not come by it."""
    game = board_of_marks(formula, wood).told_game()
    if not is_verdict_in(game, paper):
        raise BadPaper("not a paper")
    word, (_, side, moves) = paper
    picks = {row: goal for row, goal in moves}
    met = {0: True}
    todo = [0]
    while todo:
        row = todo.pop()
        for goal in game[1][row][2] if picks[row] is None else (picks[row],):
            if goal not in met:
                met[goal] = True
                todo.append(goal)
    return (word, ("plan", side, tuple([move for move in moves if move[0] in met])))
