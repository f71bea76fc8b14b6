"""A desk: formulas and woods are kept by names, asked about, and taken back."""

from allboughs.deciding import means, parted, shown, truth
from allboughs.errors import BadFormula, BadScope, BadSentence, BadText, NoName, TooMany
from allboughs.fillings import fillings
from allboughs.texts import formula_of, text_of
from allboughs.woodrows import wood_of, wood_words
from allboughs.words import is_name

# For each word with which a row may begin what its other words name; "new" is a name that need not keep anything.
ROWS = {
    "ask": ("formula", "wood"),
    "truth": ("formula",),
    "same": ("formula", "formula"),
    "count": ("formula", "wood"),
    "show": ("formula", "wood", "new"),
    "text": ("formula",),
    "told": ("wood",),
    "undo": (),
}


def counted(formula, wood):
    """How many fillings there are, as an answer."""
    told = fillings(formula, wood)
    return str(len(told[1])) if told[0] == "all" else "endless"


class Desk:
    """Keeps formulas and, apart from them, woods by names."""

    def __init__(self):
        """Begin with nothing."""
        self.formulas = {}
        self.woods = {}
        self.past = []

    def say(self, row):
        """The answer to a row, a value of any kind."""
        words = row.split(" ") if isinstance(row, str) else [""]
        if words[0] == "let" and len(words) == 3 and is_name(words[1]) and words[2]:
            return self.keep_text(words[1], words[2])
        if words[0] == "wood" and len(words) > 3 and is_name(words[1]):
            wood = wood_of(words[2:])
            return "what" if wood is None else self.keep(self.woods, words[1], wood)
        kinds = ROWS.get(words[0])
        if kinds is None or len(words) != 1 + len(kinds) or not all(is_name(name) for name in words[1:]):
            return "what"
        for kind, name in zip(kinds, words[1:]):
            if kind == "formula" and name not in self.formulas or kind == "wood" and name not in self.woods:
                return f"unknown {name}"
        return self.answer(words[0], words[1:])

    def keep_text(self, name, text):
        """Keep the formula with this text, if there is one."""
        try:
            formula = formula_of(text)
        except BadText as error:
            return f"wrong {error.at}"
        except BadFormula:
            return "wide"
        return self.keep(self.formulas, name, formula)

    def keep(self, store, name, thing):
        """Keep a thing under a name, and remember what the name kept ahead."""
        self.past.append((store, name, store.get(name)))
        store[name] = thing
        return "kept"

    def undo(self):
        """Take back what was kept last."""
        if not self.past:
            return "nothing"
        store, name, ahead = self.past.pop()
        if ahead is None:
            del store[name]
        else:
            store[name] = ahead
        return "undone"

    def answer(self, word, names):
        """The answer to a row of known words and names, but for what keeps something told in it."""
        try:
            return self.told(word, names)
        except BadSentence:
            return "open"
        except BadFormula:
            return "unbound"
        except NoName as error:
            return f"lacking {error.name}"
        except BadScope:
            return "broad"
        except TooMany:
            return "many"

    def told(self, word, names):
        """The answer to a row, if no error comes ahead of it."""
        if word == "undo":
            return self.undo()
        if word == "told":
            return " ".join(["wood", names[0], *wood_words(self.woods[names[0]])])
        formula = self.formulas[names[0]]
        if word == "truth":
            return truth(formula)[0]
        if word == "text":
            return text_of(formula)
        if word == "same":
            return "same" if parted(formula, self.formulas[names[1]]) is None else "parted"
        wood = self.woods[names[1]]
        if word == "ask":
            return "yes" if means(formula, wood) else "no"
        if word == "count":
            return counted(formula, wood)
        found = shown(formula, wood)
        return "none" if found is None else self.keep(self.woods, names[2], found)

    def kept(self):
        """A pair of dicts, from the names to the formulas and to the woods, each ascending."""
        formulas = {name: self.formulas[name] for name in sorted(self.formulas)}
        woods = {name: self.woods[name] for name in sorted(self.woods)}
        return (formulas, woods)
