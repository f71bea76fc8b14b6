"""Points [2] and [50] as far as they speak of names."""

from allboughs.words import KEPT, is_name
from tests.support import JUNK, Case

WORDS = """again all apart bare below both closed either every finite first left not often one right road root same
some sub thread"""


class Words(Case):
    def test_kept_words(self):
        self.assertEqual(KEPT, tuple(WORDS.split()))
        self.assertEqual(list(KEPT), sorted(KEPT))
        self.none_of(is_name, KEPT)

    def test_names(self):
        for name in ("x", "z", "a", "abcdefgh", "zzzzzzzz", "roots", "al", "yes", "no", "go", "mark", "least", "wood"):
            self.assertIs(is_name(name), True, name)
            self.assertIs(is_name(thing=name), True)

    def test_no_names(self):
        self.none_of(is_name, ("", "abcdefghi", "X", "x1", "x y", "x ", " x", "x_", "x\n", "\u00e9", "\uff58", "`", "{"))

    def test_any_value(self):
        for thing in JUNK:
            self.assertIs(is_name(thing), isinstance(thing, str) and thing in ("x", "wood", "yes"))
