"""Point [51], and [69] as far as it speaks of texts."""

from allboughs.errors import BadFormula, BadText
from allboughs.formulas import is_long
from allboughs.texts import formula_of, text_of
from allboughs.words import KEPT
from tests.meanings import some_formula
from tests.support import Alike, Case, dice, junk_but
from tests.test_formulas import ONES, TWOS, boths, nots

NAMES = ("x", "yy", "abcdefgh")
LETTERS = "abcdefghijklmnopqrstuvwxyz"
SHAPES = {"sub": "(n,n)", "root": "(n)", "left": "(n,n)", "right": "(n,n)", "not": "(f)", "both": "(f,f)", "either": "(f,f)",
          "some": "(n,f)", "all": "(n,f)"}
SHAPES.update({word: "(n)" for word in ONES})
SHAPES.update({word: "(n,n)" for word in TWOS})


def stop_at(text):
    """Where reading comes to an end, by the words of [51]; None for a whole text of a tree.

    What is still due is held as a row of signs, f for a formula, n for a name, and read sign by sign.
    """
    due, letters, formulas = "f", "", 0
    for at, sign in enumerate(text):
        if not due:
            return at
        if due[0] == "f":
            if not letters:
                formulas += 1
                if formulas == 101:
                    return at
            if letters in SHAPES and sign == "(":
                due, letters = SHAPES[letters][1:] + due[1:], ""
            elif any(word.startswith(letters + sign) for word in SHAPES):
                letters += sign
            else:
                return at
        elif due[0] == "n":
            if sign in LETTERS:
                if len(letters) == 8:
                    return at
                letters += sign
            elif not letters or letters in KEPT or sign != due[1]:
                return at
            else:
                due, letters = due[2:], ""
        elif sign == due[0]:
            due = due[1:]
        else:
            return at
    return len(text) if due else None


def some_long(chance, nodes):
    """A formula in which shorts may stand."""
    formula = some_formula(chance, nodes, NAMES)

    def spoiled(part):
        if part[0] in ("sub", "left", "right") and chance.random() < 0.3:
            return (chance.choice(TWOS), *part[1:])
        if part[0] == "root" and chance.random() < 0.5:
            return (chance.choice(ONES), *part[1:])
        return tuple(spoiled(one) if isinstance(one, tuple) else one for one in part)

    return spoiled(formula)


class Texts(Case):
    def bad(self, text, at):
        """Reading the text comes to an end at this index."""
        self.assertEqual(self.fails(BadText, formula_of, text).at, at, text)

    def test_by_hand(self):
        formula = ("all", "x", ("either", ("root", "x"), ("not", ("left", "x", "y"))))
        self.assertEqual(text_of(formula=formula), "all(x,either(root(x),not(left(x,y))))")
        self.assertEqual(formula_of(text="all(x,either(root(x),not(left(x,y))))"), formula)
        self.assertEqual(text_of(("both", ("same", "a", "b"), ("again", "c"))), "both(same(a,b),again(c))")
        self.assertEqual(formula_of("some(rooty,finite(rooty))"), ("some", "rooty", ("finite", "rooty")))
        self.bad("sub(x,root)", 10)
        self.bad("sup(x,y)", 2)

    def test_all_letters_in_names(self):
        for letter in LETTERS:
            self.assertEqual(formula_of(f"sub({letter},{letter}y{letter})"), ("sub", letter, f"{letter}y{letter}"))
            self.bad(f"sub({letter.upper()},x)", 4)
        for sign in "`{@[019_":
            self.bad(f"sub({sign},x)", 4)
            self.bad(f"sub(x{sign},x)", 5)

    def test_where_reading_stops(self):
        for text, at in (
            ("", 0), (" sub(x,y)", 0), ("sub (x,y)", 3), ("sub( x,y)", 4), ("sub(x ,y)", 5), ("sub(x, y)", 6), ("sub(x,y )", 7), ("sub(x,y) ", 8),
            ("sub(x,y)\n", 8), ("su(x,y)", 2), ("subs(x,y)", 3), ("Sub(x,y)", 0), ("(x,y)", 0), ("x", 0), ("rot(x)", 2), ("roo(x)", 3),
            ("root)x)", 4), ("root", 4), ("root(", 5), ("root(x", 6), ("root(x,y)", 6), ("root()", 5), ("root(X)", 5), ("root(x1)", 6),
            ("root(abcdefghi)", 13), ("root(abcdefgh)", None), ("root(root)", 9), ("root(roots)", None), ("root(all", 8), ("root(alla", 9),
            ("sub(x)", 5), ("sub(x,y,z)", 8 - 1), ("sub(,x)", 4), ("sub(all,x)", 7), ("sub(x,y))", 8), ("sub(x,y)sub(x,y)", 8),
            ("not(x)", 4), ("not(sub(x,y)", 12), ("not(sub(x,y),sub(x,y))", 12), ("not()", 4), ("both(root(x))", 12), ("both(root(x),y)", 13),
            ("some(root(x))", 9), ("some(x,y)", 7), ("some(x)", 6), ("all(x,all)", 9), ("all(x,root(x)", 13), ("bare(x,y)", 6), ("same(x)", 6),
            ("roa(x)", 3), ("road(x)", None), ("onesub", 3), ("e", 1), ("ever", 4), ("\u00e9", 0), ("root(\u00e9)", 5), ("root(x\u00e9)", 6),
            ("sub(x,y", 7), ("some", 4), ("so", 2), ("ss", 1), ("bo", 2), ("bothx", 4), ("agai", 4), ("root(not)", 8), ("root(often", 10),
        ):
            self.assertEqual(stop_at(text), at, text)
            if at is None:
                self.assertEqual(text_of(formula_of(text)), text)
            else:
                self.bad(text, at)

    def test_no_strings(self):
        for thing in junk_but("", "x", "wood", "yes"):
            self.bad(thing, 0)
        self.bad(b"sub(x,y)", 0)
        self.bad(["sub(x,y)"], 0)

    def test_cut_off_at_each_sign(self):
        for text in ("all(x,either(root(x),not(left(x,abcdefgh))))", "both(same(a,b),some(c,again(c)))"):
            for at in range(len(text)):
                self.bad(text[:at], at)
                self.assertEqual(stop_at(text[:at]), at)

    def test_kept_words(self):
        for word in KEPT:
            self.bad(f"sub({word},x)", 4 + len(word))
            self.bad(f"sub(x,{word})", 6 + len(word))
            self.bad(f"all({word},root(x))", 4 + len(word))
            self.assertEqual(formula_of(f"sub(x,{word}a)"), ("sub", "x", word + "a"))
            self.bad(word, len(word))

    def test_100_formulas(self):
        for formula in (nots(100), boths(50), ("not", boths(50))):
            self.assertEqual(formula_of(text_of(formula)), formula)
        self.bad("not(" * 100 + "sub(x,y)" + ")" * 100, 400)
        self.bad("not(" * 100, 400)
        self.bad("not(" * 99, 396)
        self.bad("not(" * 100 + "?", 400)
        text = text_of(boths(50))
        self.bad(f"both({text},sub(x,y))", 5 + len(text) + 1)
        self.assertEqual(stop_at(f"both({text},sub(x,y))"), 5 + len(text) + 1)
        self.bad(f"both(sub(x,y),{text})", stop_at(f"both(sub(x,y),{text})"))

    def test_more_than_3_free_names(self):
        self.fails(BadFormula, formula_of, "both(sub(a,b),sub(c,d))")
        self.fails(BadFormula, formula_of, "some(a,both(sub(a,b),sub(c,d)))")
        self.assertEqual(formula_of("both(sub(a,b),some(c,some(d,sub(c,d))))")[0], "both")
        self.bad("both(sub(a,b),sub(c,d)", 22)
        self.bad("both(sub(a,b),sub(c,d)))", 23)

    def test_there_and_back(self):
        chance = dice(280)
        for _ in range(400):
            formula = some_long(chance, chance.randint(1, 12))
            self.assertTrue(is_long(formula))
            text = text_of(formula)
            self.assertEqual(formula_of(text), formula)
            self.assertIsNone(stop_at(text))

    def test_spoiled_texts(self):
        chance = dice(281)
        met = set()
        for _ in range(3000):
            text = text_of(some_long(chance, chance.randint(1, 6)))
            at = chance.randrange(len(text) + 1)
            sign = chance.choice("(),abnorstxy R")
            spoiled = chance.choice((text[:at] + sign + text[at:], text[:at] + text[at + 1:], text[:at] + sign + text[at + 1:], text[:at]))
            stop = stop_at(spoiled)
            if stop is None:
                try:
                    self.assertEqual(text_of(formula_of(spoiled)), spoiled)
                except BadFormula:
                    met.add("wide")
            else:
                self.bad(spoiled, stop)
                met.add(stop)
        self.assertGreater(len(met), 20)

    def test_errors(self):
        for thing in junk_but() + ["sub(x,y)", nots(101), ("sub", "x", "all"), ("both", ("sub", "a", "b"), ("sub", "c", "d")), (Alike(), "x")]:
            self.fails(BadFormula, text_of, thing)
