"""Point [3] and the list of errors in the interface."""

import inspect

from allboughs import errors
from tests.support import Case

PLAIN = """BadAgain BadAhead BadAims BadChoices BadCondition BadFormula BadGame BadGuide BadHistory BadLetters BadLot
BadLots BadMachine BadMany BadMost BadName BadNames BadOutsider BadPaper BadPlace BadPlain BadPlan BadPoints BadRanks
BadRoads BadRow BadScope BadSentence BadShort BadSide BadSketch BadState BadStep BadSteps BadTable BadWish BadWood
OtherLetters OtherScope""".split()
TELLING = {"BadText": "at", "NoName": "name", "SharedName": "name", "TooMany": "most"}


class Errors(Case):
    def test_all_are_there_and_no_others(self):
        found = {name for name, _ in inspect.getmembers(errors, inspect.isclass)}
        self.assertEqual(found, {"BoughError", *PLAIN, *TELLING})

    def test_all_stand_directly_below_the_one(self):
        self.assertEqual(errors.BoughError.__bases__, (ValueError,))
        for name in [*PLAIN, *TELLING]:
            error = getattr(errors, name)
            self.assertEqual(error.__bases__, (errors.BoughError,), name)
            self.assertEqual(error.__module__, "allboughs.errors")

    def test_attributes_are_set_when_they_are_created(self):
        for name, attribute in TELLING.items():
            error = getattr(errors, name)
            self.assertEqual(getattr(error(7), attribute), 7)
            self.assertEqual(getattr(error(**{attribute: 7}), attribute), 7)

    def test_plain_ones_can_be_raised_without_words(self):
        for name in PLAIN:
            with self.assertRaises(ValueError):
                raise getattr(errors, name)()
