"""The errors of the program: all of them stand directly below BoughError."""


class BoughError(ValueError):
    """What was passed cannot be taken."""


class BadAgain(BoughError):
    """No tuple of 1 to 12 steps."""


class BadAhead(BoughError):
    """No tuple of 0 to 12 steps."""


class BadAims(BoughError):
    """No ascending tuple of numbers of rows."""


class BadChoices(BoughError):
    """No choices."""


class BadCondition(BoughError):
    """No condition."""


class BadFormula(BoughError):
    """No formula, or none of the kind that is asked for."""


class BadGame(BoughError):
    """No game."""


class BadGuide(BoughError):
    """No guide."""


class BadHistory(BoughError):
    """No history."""


class BadLetters(BoughError):
    """No tuple of letters of the kind that is asked for."""


class BadLot(BoughError):
    """No lot."""


class BadLots(BoughError):
    """No ascending tuple of lots none of which has all pairs of another one."""


class BadMachine(BoughError):
    """No machine."""


class BadMany(BoughError):
    """No number of nodes from 1 to 3."""


class BadMost(BoughError):
    """No number of nodes from 1 to 3."""


class BadName(BoughError):
    """No name of the kind that is asked for."""


class BadNames(BoughError):
    """No tuple of names of the kind that is asked for."""


class BadOutsider(BoughError):
    """No outsider."""


class BadPaper(BoughError):
    """No paper."""


class BadPlace(BoughError):
    """No place of the kind that is asked for."""


class BadPlain(BoughError):
    """No plain formula of roads."""


class BadPlan(BoughError):
    """No plan of the kind that is asked for."""


class BadPoints(BoughError):
    """No points formula of the kind that is asked for."""


class BadRanks(BoughError):
    """No ranks."""


class BadRoads(BoughError):
    """No roads formula."""


class BadRow(BoughError):
    """No number of a row."""


class BadScope(BoughError):
    """No scope of the kind that is asked for."""


class BadSentence(BoughError):
    """No sentence."""


class BadShort(BoughError):
    """No short."""


class BadSide(BoughError):
    """No side: neither 0 nor 1."""


class BadSketch(BoughError):
    """No sketch."""


class BadState(BoughError):
    """No number of a state."""


class BadStep(BoughError):
    """No step."""


class BadSteps(BoughError):
    """No tuple of steps of the kind that is asked for."""


class BadTable(BoughError):
    """No table."""


class BadText(BoughError):
    """A text that cannot be read on from the index at."""

    def __init__(self, at):
        super().__init__(f"cannot be read on from index {at}")
        self.at = at


class BadWish(BoughError):
    """No wish."""


class BadWood(BoughError):
    """No wood."""


class NoName(BoughError):
    """A name that is due and is not in the scope."""

    def __init__(self, name):
        super().__init__(f"not in the scope: {name}")
        self.name = name


class OtherLetters(BoughError):
    """Two tables have unlike numbers of letters."""


class OtherScope(BoughError):
    """What belongs together is of unlike scopes."""


class SharedName(BoughError):
    """A name that both scopes have."""

    def __init__(self, name):
        super().__init__(f"in both scopes: {name}")
        self.name = name


class TooMany(BoughError):
    """There would be more than the number most."""

    def __init__(self, most):
        super().__init__(f"more than {most}")
        self.most = most
