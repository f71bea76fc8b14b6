"""Point [170]."""

from allboughs.deciding import means, parted, shown, truth
from allboughs.desk import Desk
from allboughs.errors import BadFormula, BadScope, BadText, NoName, TooMany
from allboughs.fillings import fillings
from allboughs.formulas import free_names, is_sentence
from allboughs.texts import formula_of, text_of
from allboughs.woods import is_wood
from allboughs.words import KEPT
from tests.meanings import left_over, some_formula, some_plain, wood_for
from tests.support import Case, alike, dice, junk_but
from tests.test_compiling import TOO_MANY

ROOT = "wood r x x:1:1 -:1:1"
EXAMPLE = (
    ("let f sub(x,y)", "kept"), ("wood w x,y x:0:0", "kept"), ("ask f w", "no"), ("truth f", "open"),
    ("let f all(x,all(y,sub(x,y)))", "kept"), ("truth f", "false"), ("undo", "undone"), ("undo", "undone"), ("ask f w", "unknown w"),
    ("let g sub(x,root)", "wrong 10"),
)


def row_of(name, wood):
    """The row by which a wood is kept, by the words of [170]."""
    def word(names):
        return ",".join(names) or "-"

    return " ".join(["wood", name, word(wood[1]), *[f"{word(letter)}:{left}:{right}" for letter, left, right in wood[2]]])


class ByHand(Case):
    def said(self, *rows):
        """Say pairs of a row and the answer that is due to a new desk; told is the desk."""
        desk = Desk()
        for row, answer in rows:
            self.assertEqual(desk.say(row), answer, row)
        return desk

    def test_by_hand(self):
        desk = self.said(*EXAMPLE)
        self.assertEqual(desk.kept(), ({"f": ("sub", "x", "y")}, {}))

    def test_it_begins_with_nothing(self):
        self.assertEqual(Desk().kept(), ({}, {}))
        self.assertEqual(Desk().say("undo"), "nothing")
        self.assertIn("say", vars(Desk))
        self.assertIn("kept", vars(Desk))
        self.assertEqual(Desk().say(row="undo"), "nothing")

    def test_asking(self):
        desk = self.said(
            (ROOT, "kept"), ("let f root(x)", "kept"), ("let g some(x,root(x))", "kept"), ("let h one(x)", "kept"),
            ("ask f r", "yes"), ("ask g r", "yes"), ("ask h r", "yes"), ("truth g", "true"), ("same f h", "parted"), ("same f f", "same"),
            ("text f", "root(x)"), ("text h", "one(x)"), ("told r", ROOT), ("count g r", "1"), ("let i some(y,sub(y,x))", "kept"),
            ("count i r", "2"), ("let j some(y,sub(x,y))", "kept"), ("count j r", "endless"), ("let k some(y,both(root(y),left(y,x)))", "kept"),
            ("count k r", "0"), ("show k r s", "none"), ("show g r s", "kept"), ("told s", ROOT.replace("wood r", "wood s")),
            ("undo", "undone"), ("told s", "unknown s"))
        self.assertEqual(list(desk.kept()[0]), ["f", "g", "h", "i", "j", "k"])
        self.assertEqual(list(desk.kept()[1]), ["r"])

    def test_kept_is_ascending_and_ones_own(self):
        desk = self.said(("let b root(x)", "kept"), ("let a root(y)", "kept"), ("wood d - -:0:0", "kept"), ("wood c - -:0:0", "kept"))
        formulas, woods = desk.kept()
        self.assertEqual(list(formulas.items()), [("a", ("root", "y")), ("b", ("root", "x"))])
        self.assertEqual(list(woods), ["c", "d"])
        formulas.clear()
        woods["e"] = None
        self.assertEqual([list(part) for part in desk.kept()], [["a", "b"], ["c", "d"]])

    def test_formulas_and_woods_are_apart(self):
        desk = self.said(
            ("let a root(x)", "kept"), ("wood a x x:0:0", "kept"), ("ask a a", "no"), ("text a", "root(x)"), ("told a", "wood a x x:0:0"),
            ("undo", "undone"), ("ask a a", "unknown a"), ("text a", "root(x)"))
        self.assertEqual(desk.kept(), ({"a": ("root", "x")}, {}))

    def test_undo_behind_undo(self):
        self.said(
            ("let a root(x)", "kept"), ("let a root(y)", "kept"), ("what", "what"), ("let a root(", "wrong 5"), ("let a root(z)", "kept"),
            ("text a", "root(z)"), ("undo", "undone"), ("text a", "root(y)"), ("let b root(b)", "kept"), ("undo", "undone"), ("undo", "undone"),
            ("text a", "root(x)"), ("truth a", "open"), ("undo", "undone"), ("text a", "unknown a"), ("undo", "nothing"), ("undo", "nothing"),
            ("wood a x x:0:0", "kept"), ("wood a x -:0:0", "kept"), ("let f some(x,root(x))", "kept"), ("show f a a", "kept"),
            ("ask f a", "yes"), ("undo", "undone"), ("undo", "undone"), ("told a", "wood a x -:0:0"), ("undo", "undone"),
            ("told a", "wood a x x:0:0"), ("undo", "undone"), ("undo", "nothing"))

    def test_what(self):
        desk = self.said((ROOT, "kept"), ("let f root(x)", "kept"))
        before = desk.kept()
        for thing in junk_but() + [
            "", " ", "let", "let f", "let f ", "let f  root(x)", " let f root(x)", "let f root(x) ", "let f root(x) y", "let f sub(x, y)",
            "let\tf root(x)", "let root root(x)", "let F root(x)", "let f1 root(x)", "let abcdefghi root(x)", "let  root(x)", "Let f root(x)",
            "ask f", "ask f r r", "ask f  r", "ask f R", "ask all r", "truth", "truth f f", "truth root", "same f", "same f f f", "same f not",
            "count f", "count f r r", "show f r", "show f r s t", "show f r root", "show f r ", "text", "text f f", "told", "told r r", "told not",
            "undo ", "undo undo", "undo f", "undo\n", "wood", "wood w", "wood w x", "wood w x ", "wood w - x:0:0", "wood w x y:0:0",
            "wood w x x:0", "wood w x x:0:0:0", "wood w x x:00:0", "wood w x x:01:0", "wood w x x:1:0", "wood w x x:-1:0", "wood w x x:+0:0",
            "wood w x :0:0", "wood w x x::0", "wood w x x:0:", "wood w y,x x:0:0", "wood w x,x x:0:0", "wood w x, x:0:0", "wood w x,y y,x:0:0",
            "wood w x,y x,x:0:0", "wood w a,b,c,d -:0:0", "wood w root -:0:0", "wood w x x:0:0 ", "wood w x  x:0:0", "wood w x x:0:0 x",
            "wood w -,x x:0:0", "wood w x -,x:0:0", "wood w x x:\u0660:0", "wood all x x:0:0", "wood w x x:0:0\n", "wood w x x:\u00b2:0",
            "wood w x x:" + "9" * 6000 + ":0", "ask f r\n", "text f\t", "told told", ["undo"], b"undo", ("undo",),
            "wood w - " + " ".join(["-:0:0"] * 401),
        ]:
            if isinstance(thing, str) and thing == "told told":
                self.assertEqual(desk.say(thing), "unknown told")
            else:
                self.assertEqual(desk.say(thing), "what", thing)
        self.assertEqual(desk.kept(), before)
        self.assertEqual(desk.say("wood w - " + " ".join(["-:0:0"] * 400)), "kept")
        self.assertEqual(desk.say("wood w a,b,c a,c:1:0 -:0:0"), "kept")
        self.assertEqual(desk.kept()[1]["w"], ("wood", ("a", "b", "c"), ((("a", "c"), 1, 0), ((), 0, 0))))

    def test_numbers_with_more_figures(self):
        row = "wood w x " + " ".join([f"{'x' if at == 399 else '-'}:{(at + 1) % 400}:{399 - at}" for at in range(400)])
        desk = self.said((row, "kept"), ("told w", row))
        self.assertEqual(desk.kept()[1]["w"][2][109], ((), 110, 290))
        self.assertEqual(desk.kept()[1]["w"][2][398:], (((), 399, 1), (("x",), 0, 0)))
        last = " ".join(["-:0:0"] * 119)
        for word, answer in (("-:119:10", "kept"), ("-:9:99", "kept"), ("-:120:0", "what"), ("-:1a:0", "what"), ("-:1/:0", "what"),
                             ("-:1::0", "what"), ("-:019:0", "what"), ("-:0:00", "what"), ("-:1000:0", "what"), ("-: 1:0", "what")):
            self.assertEqual(desk.say(f"wood v - {word} {last}"), answer, word)
        self.assertEqual(desk.kept()[1]["v"][2][0], ((), 9, 99))

    def test_wrong_and_wide(self):
        desk = self.said(
            ("let f sup(x,y)", "wrong 2"), ("let f root(x)y", "wrong 7"), ("let f -", "wrong 0"), ("let f root(\tx)", "wrong 5"),
            ("let f both(sub(a,b),sub(c,d))", "wide"), ("let f both(sub(a,b),sub(c,d)", "wrong 22"), ("let root both(sub(a,b),sub(c,d))", "what"),
            ("let f root(x)\n", "wrong 7"), ("undo", "nothing"))
        self.assertEqual(desk.kept(), ({}, {}))

    def test_unknown(self):
        self.said(
            ("ask f w", "unknown f"), (ROOT, "kept"), ("ask r r", "unknown r"), ("let f root(x)", "kept"), ("ask f f", "unknown f"),
            ("ask g h", "unknown g"), ("ask f h", "unknown h"), ("truth r", "unknown r"), ("same f g", "unknown g"), ("same h g", "unknown h"),
            ("count g r", "unknown g"), ("count f g", "unknown g"), ("show g h i", "unknown g"), ("show f h i", "unknown h"),
            ("text g", "unknown g"), ("told f", "unknown f"), ("ask g root", "what"))

    def test_open_unbound_lacking_broad_many(self):
        many = text_of(TOO_MANY[0][1])
        most = text_of(TOO_MANY[1][1])
        desk = self.said(
            (ROOT, "kept"), ("wood e - -:0:0", "kept"), ("let f root(x)", "kept"), ("let g some(a,sub(a,x))", "kept"), ("let h all(a,sub(a,x))", "kept"),
            ("let t some(a,root(x))", "kept"), ("let b sub(a,b)", "kept"), ("let c sub(x,y)", "kept"), (f"let m {many}", "kept"), (f"let n {most}", "kept"),
            ("truth f", "open"), ("truth g", "open"), ("truth n", "open"), ("ask f e", "lacking x"), ("count f r", "unbound"), ("count f e", "unbound"),
            ("count h e", "unbound"), ("count t r", "unbound"), ("show f r s", "unbound"), ("show t e s", "unbound"), ("show g e s", "lacking x"),
            ("show h e s", "lacking x"), ("count g e", "lacking x"), ("ask c r", "lacking y"), ("same b c", "broad"), ("same c b", "broad"),
            ("truth m", "many"), ("ask m e", "many"), ("same m f", "many"), ("same f m", "many"), ("ask n r", "lacking z"), ("same n b", "broad"), ("same n f", "many"),
            ("same c n", "many"), ("show f r root", "what"))
        for _ in range(10):
            self.assertEqual(desk.say("undo"), "undone")
        self.assertEqual(desk.say("undo"), "nothing")
        self.assertEqual(desk.kept(), ({}, {}))

    def test_fillings_that_are_too_many(self):
        self.said(
            ("let f some(a,sub(a,x))", "kept"), ("wood w x x:1:2 x:3:4 x:5:6 x:7:7 x:7:7 x:7:7 x:7:7 -:7:7", "kept"), ("count f w", "many"),
            ("wood w x x:1:2 x:3:4 x:5:6 x:6:6 x:6:6 x:6:6 -:6:6", "kept"), ("count f w", "64"))


class Sessions(Case):
    def test_each_answer_is_what_the_functions_tell(self):
        chance = dice(290)
        answers = set()
        for _ in range(25):
            desk = Desk()
            formulas, woods, past = {}, {}, []
            for _ in range(40):
                row = some_row(chance)
                answer = desk.say(row)
                wanted = due(row, formulas, woods)
                answers.add(answer.split(" ")[0])
                words = row.split(" ")
                if row == "undo":
                    self.assertEqual(answer, "undone" if past else "nothing")
                    if past:
                        formulas, woods = past.pop()
                elif wanted == "kept":
                    self.assertEqual(answer, "kept", row)
                    past.append((dict(formulas), dict(woods)))
                    if words[0] == "let":
                        formulas[words[1]] = formula_of(words[2])
                    elif words[0] == "wood":
                        woods[words[1]] = desk.kept()[1][words[1]]
                        self.assertEqual(row_of(words[1], woods[words[1]]), row)
                    else:
                        told = desk.kept()[1][words[3]]
                        self.show_fits(formulas[words[1]], woods[words[2]], told)
                        woods[words[3]] = told
                else:
                    self.assertEqual(answer, wanted, row)
                self.assertEqual(desk.kept(), (dict(sorted(formulas.items())), dict(sorted(woods.items()))))
            while past:
                self.assertEqual(desk.say("undo"), "undone")
                formulas, woods = past.pop()
                self.assertEqual(desk.kept(), (dict(sorted(formulas.items())), dict(sorted(woods.items()))))
            self.assertEqual(desk.say("undo"), "nothing")
        self.assertGreaterEqual(answers, {"kept", "undone", "yes", "no", "true", "open", "same", "parted", "unknown", "none", "unbound", "lacking"})

    def show_fits(self, formula, wood, told):
        """Look at a wood that was kept by show."""
        self.assertTrue(is_wood(told))
        self.assertEqual(told[1], free_names(formula[2]))
        self.assertIs(means(formula[2], told), formula[0] == "some")
        scope = free_names(formula)
        self.assertTrue(alike(left_over(told, scope), left_over(wood, scope)))


def some_row(chance):
    """A row of any kind, most of them such that nothing is wrong with them."""
    name, other, new = [chance.choice("abcd") for _ in range(3)]
    word = chance.choice(("let", "let", "let", "wood", "wood", "ask", "truth", "same", "count", "show", "text", "told", "undo"))
    if word == "let":
        formula = chance.choice((some_formula(chance, chance.randint(1, 4), ("x", "y")), ("some", "x", some_plain(chance, 2, ("x", "y")))))
        return f"let {name} {text_of(formula)}"
    if word == "wood":
        return row_of(name, wood_for(chance, chance.choice((("x",), ("x", "y"), ("y",), ())), 3))
    if word == "undo":
        return word
    return " ".join([word, name, other, new][:{"truth": 2, "text": 2, "told": 2, "show": 4}.get(word, 3)])


def due(row, formulas, woods):
    """The answer that is due to a row that is one, told by the functions; "kept" for all that keep something."""
    word, *names = row.split(" ")
    if word in ("let", "wood", "undo"):
        return "kept"
    kinds = {"truth": "f", "text": "f", "told": "w", "same": "ff"}.get(word, "fw")
    for kind, name in zip(kinds, names):
        if name not in (formulas if kind == "f" else woods):
            return f"unknown {name}"
    things = [(formulas if kind == "f" else woods)[name] for kind, name in zip(kinds, names)]
    if word == "truth" and not is_sentence(things[0]):
        return "open"
    try:
        if word == "show":
            return "none" if shown(*things) is None else "kept"
        if word == "same":
            return "same" if parted(*things) is None else "parted"
        if word == "count":
            told = fillings(*things)
            return told[0] if told[0] == "endless" else str(len(told[1]))
        if word == "ask":
            return "yes" if means(*things) else "no"
        return {"truth": lambda f: truth(f)[0], "text": text_of, "told": lambda wood: row_of(names[0], wood)}[word](*things)
    except BadFormula:
        return "unbound"
    except NoName as error:
        return f"lacking {error.name}"
    except BadScope:
        return "broad"
    except TooMany:
        return "many"


class Words(Case):
    def test_no_kept_word_is_a_name(self):
        desk = Desk()
        desk.say(ROOT)
        desk.say("let f root(x)")
        for word in KEPT:
            for row in (f"let {word} root(x)", f"wood {word} x x:0:0", f"ask {word} r", f"ask f {word}", f"show f r {word}", f"wood w {word} -:0:0"):
                self.assertEqual(desk.say(row), "what")
            self.assertEqual(desk.say(f"let f root({word})"), f"wrong {5 + len(word)}")
        with self.assertRaises(BadText):
            formula_of("root(all)")
