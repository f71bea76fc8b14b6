"""Formulas as texts: written, and read again."""

from allboughs.errors import BadFormula, BadText
from allboughs.formulas import BINDERS, JOINTS, MOST_NODES, check_formula, free_in
from allboughs.shortforms import OF_ONE
from allboughs.words import KEPT

MOST_LETTERS = 8


def write(formula):
    """The text of what is known to be a formula, or the name of a set."""
    if isinstance(formula, str):
        return formula
    parts = [write(part) for part in formula[1:]]
    inner = ",".join(parts)
    return f"{formula[0]}({inner})"


def text_of(formula):
    """The text of a formula."""
    check_formula(formula)
    return write(formula)


class Reader:
    """Reads a text from the left; at is the index of the next sign."""

    def __init__(self, text):
        """Begin ahead of the first sign."""
        self.text = text
        self.at = 0
        self.many = 0

    def sign(self):
        """The next sign; nothing at the end of the text."""
        return self.text[self.at:self.at + 1]

    def due(self, sign):
        """Read a sign that has to stand here."""
        if self.sign() != sign:
            raise BadText(self.at)
        self.at += 1

    def read_word(self):
        """Read a word of formulas, all of which are kept words, and no one of them is the beginning of another."""
        letters = ""
        while letters not in KEPT:
            longer = letters + self.sign()
            if longer == letters or not any(word.startswith(longer) for word in KEPT):
                raise BadText(self.at)
            letters = longer
            self.at += 1
        return letters

    def read_name(self):
        """Read a name; the sign behind it is not looked at but for not being a letter."""
        letters = ""
        while "a" <= self.sign() <= "z":
            if len(letters) == MOST_LETTERS:
                raise BadText(self.at)
            letters += self.sign()
            self.at += 1
        if not letters or letters in KEPT:
            raise BadText(self.at)
        return letters

    def read_formula(self):
        """Read a formula, which may have more free names than it should."""
        if self.many == MOST_NODES:
            raise BadText(self.at)
        self.many += 1
        word = self.read_word()
        self.due("(")
        if word in JOINTS:
            first = self.read_formula()
            self.due(",")
            told = (word, first, self.read_formula())
        elif word in BINDERS:
            name = self.read_name()
            self.due(",")
            told = (word, name, self.read_formula())
        elif word == "not":
            told = (word, self.read_formula())
        elif word == "root" or word in OF_ONE:
            told = (word, self.read_name())
        else:
            name = self.read_name()
            self.due(",")
            told = (word, name, self.read_name())
        self.due(")")
        return told


def formula_of(text):
    """The formula with this text."""
    if not isinstance(text, str):
        raise BadText(0)
    reader = Reader(text)
    formula = reader.read_formula()
    if reader.at < len(text):
        raise BadText(reader.at)
    if free_in(formula) is None:
        raise BadFormula("more than 3 free names")
    return formula
