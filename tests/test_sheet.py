"""Part 7: sheets."""

import random
import unittest

import grammar
import model
import reckon
from paper import NAMES, Paper, random_text, text_for
from sandreckoner.errors import BadForm, BadRange, Missing, NotAllowed, ReckonError, Ring, TooLarge
from sandreckoner.evaluate import value_of
from sandreckoner.forms import of_int
from sandreckoner.plain import plain_text
from sandreckoner.sheet import MAX_CELLS, Sheet, load_sheet

MANY = list("abcdefghijkl")


def error_of(function, *args):
    """The name of the error that a call raises, or None."""
    try:
        function(*args)
    except ReckonError as error:
        return type(error).__name__
    return None


def result_of(function, *args):
    """What a call returns, or the name of the error that it raises."""
    try:
        return function(*args)
    except ReckonError as error:
        return type(error).__name__


def sheet_of(**texts):
    sheet = Sheet()
    for name, text in texts.items():
        sheet.set_cell(name, text)
    return sheet


def state(sheet):
    """All that a sheet tells of itself."""
    names = sheet.names()
    values = [result_of(sheet.value_at, name) for name in names]
    return names, values, [sheet.formula_at(name) for name in names], sheet.renewed(), sheet.image()


class SheetCase(unittest.TestCase):
    def values(self, sheet, **expected):
        for name, value in expected.items():
            found = result_of(sheet.value_at, name)
            self.assertEqual(found, value if isinstance(value, str) else model.number(value), name)

    def refused(self, error, function, *args):
        with self.assertRaises(ReckonError) as caught:
            function(*args)
        self.assertIs(type(caught.exception), error, args)


class NewSheetTest(SheetCase):
    def test_a_new_sheet(self):
        sheet = Sheet()
        self.assertEqual(state(sheet), ([], [], [], [], ""))
        self.refused(Missing, sheet.value_at, "a")
        self.refused(Missing, sheet.formula_at, "a")
        self.refused(Missing, sheet.clear_cell, "a")
        self.assertEqual(sheet.value_of_formula("2^3"), of_int(8))
        self.refused(Missing, sheet.value_of_formula, "a")
        self.assertEqual(MAX_CELLS, 12)

    def test_two_sheets_do_not_touch_each_other(self):
        first, second = Sheet(), Sheet()
        first.set_cell("a", "1")
        self.assertEqual(second.names(), [])
        second.set_cell("a", "2")
        self.values(first, a=1)
        self.values(second, a=2)

    def test_methods_are_in_the_class_itself(self):
        listed = [
            "set_cell", "clear_cell", "value_at", "formula_at", "names", "renewed", "image", "value_of_formula",
        ]
        for name in listed:
            self.assertIn(name, vars(Sheet))


class ValuesTest(SheetCase):
    def test_values_over_other_cells(self):
        sheet = sheet_of(b="2^a + 1", a="3", c="a * b")
        self.values(sheet, a=3, b=9, c=27)
        sheet.set_cell("a", "0 - 0")
        self.values(sheet, a=0, b=2, c=0)
        sheet.set_cell("a", "-1")
        self.values(sheet, a=-1, b="BadRange", c="BadRange")
        sheet.set_cell("a", "7")
        self.values(sheet, a=7, b=129, c=903)

    def test_cells_over_names_without_a_cell(self):
        sheet = sheet_of(a="b + 1", c="1")
        self.values(sheet, a="Missing", c=1)
        sheet.set_cell("b", "c")
        self.values(sheet, a=2, b=1)
        sheet.clear_cell("c")
        self.values(sheet, a="Missing", b="Missing")
        sheet.clear_cell("b")
        self.values(sheet, a="Missing")
        sheet.set_cell("b", "5")
        self.values(sheet, a=6)

    def test_errors_of_cells(self):
        sheet = sheet_of(
            r="rem(1, 0)", d="2^-1", w="2^tower(39)", m="low(0)", e="nil", t="tower(41)", u="1 >> -1",
        )
        self.values(
            sheet, r="NotAllowed", d="BadRange", w="TooLarge", m="Missing", e="Missing", t="NotAllowed",
            u="NotAllowed",
        )
        for name, error in (("r", NotAllowed), ("d", BadRange), ("w", TooLarge), ("m", Missing), ("e", Missing)):
            sheet.set_cell("x", f"1 + {name}")
            sheet.set_cell("y", "x * 0")
            self.refused(error, sheet.value_at, "x")
            self.refused(error, sheet.value_at, "y")
            self.refused(error, sheet.value_of_formula, "3 - y")
            # Another error that arises before the name is reached, or behind it.
            self.refused(NotAllowed, sheet.value_of_formula, "(1 >> -1) + x")
            self.refused(error, sheet.value_of_formula, "x + (1 >> -1)")
            self.refused(error, sheet.value_of_formula, f"min({name}, rem(1, 0))")
            sheet.set_cell("x", "1")

    def test_the_first_error_counts(self):
        sheet = sheet_of(p="2^-1", q="rem(1, 0)", s="tower(40)")
        for text, error in (
            ("p + q", BadRange), ("q + p", NotAllowed), ("s + p", TooLarge), ("zz + s", Missing),
            ("max(q, zz)", NotAllowed), ("zz - (q + p)", Missing), ("1 * (s - q)", TooLarge), ("0 * p", BadRange),
        ):
            with self.subTest(text):
                self.refused(error, sheet.value_of_formula, text)
                sheet.set_cell("x", text)
                self.refused(error, sheet.value_at, "x")
                sheet.set_cell("y", "x + q")
                self.refused(error, sheet.value_at, "y")

    def test_chains(self):
        sheet = Sheet()
        for name, below in zip(MANY[::-1], MANY[::-1][1:] + ["0"]):
            sheet.set_cell(name, f"{below} + 1")
        self.values(sheet, a=1, b=2, l=12)
        sheet.set_cell("a", "2^100")
        self.assertEqual(sheet.renewed(), MANY)
        self.assertEqual(sheet.value_at("l"), of_int(2 ** 100 + 11))
        sheet.set_cell("f", "rem(e, 0)")
        self.assertEqual(sheet.renewed(), MANY[5:])
        self.values(sheet, e=2 ** 100 + 4, f="NotAllowed", g="NotAllowed", l="NotAllowed")

    def test_towers_in_a_chain(self):
        sheet = sheet_of(a="2^100")
        for name, below in zip("bcdefghijkl", "abcdefghijk"):
            sheet.set_cell(name, f"2^{below}")
        self.assertEqual(sheet.value_at("l"), model.raised(of_int(100), 12))
        sheet.set_cell("a", "2^tower(30)")
        self.assertEqual(error_of(sheet.value_at, "l"), "TooLarge")
        self.assertEqual(sheet.value_at("b"), model.raised((), 33))

    def test_diamonds(self):
        sheet = sheet_of(a="b + c", b="d * 2", c="d + 1", d="5")
        self.values(sheet, a=16, b=10, c=6, d=5)
        sheet.set_cell("d", "6")
        self.assertEqual(sheet.renewed(), ["a", "b", "c", "d"])
        self.values(sheet, a=19)
        sheet.set_cell("b", "2")
        self.assertEqual(sheet.renewed(), ["a", "b"])
        self.values(sheet, a=9)

    def test_many_diamonds_above_one_another(self):
        sheet = sheet_of(a="1")
        for name, below in zip("bcdefghijkl", "abcdefghijk"):
            sheet.set_cell(name, "+".join([below] * 256))
        self.values(sheet, l=256 ** 11)
        sheet.set_cell("a", "-1")
        self.values(sheet, l=-256 ** 11)

    def test_deep_formulas_in_a_chain(self):
        # As many levels as there may be, in each of twelve cells.
        deep = "-(" * 15 + "{}" + ")" * 15
        sheet = sheet_of(a="7")
        for name, below in zip("bcdefghijkl", "abcdefghijk"):
            sheet.set_cell(name, deep.format(below))
        self.values(sheet, b=-7, l=-7, c=7)
        sheet.clear_cell("a")
        self.values(sheet, b="Missing", l="Missing")


class SetCellTest(SheetCase):
    def test_no_names(self):
        sheet = sheet_of(a="1")
        for name in ("", "A", "aB", "abcde", "a1", "1", "a b", " a", "a ", "if", "else", "turn", "show", "rem", "bit",
                     "len", "low", "abs", "min", "max", "a-b", "_", "(a)", "="):
            with self.subTest(name):
                self.refused(NotAllowed, sheet.set_cell, name, "1")
                self.refused(Missing, sheet.value_at, name)
                self.refused(Missing, sheet.clear_cell, name)
                self.refused(Missing, sheet.formula_at, name)
        self.assertEqual(state(sheet), (["a"], [of_int(1)], ["1"], ["a"], "a=1;"))
        for name in ("z", "zz", "zzz", "zzzz", "remo", "lens", "i"):
            sheet.set_cell(name, "1")

    def test_no_formulas(self):
        sheet = sheet_of(a="1")
        before = state(sheet)
        for text in ("", " ", "1 +", "01", "A", "a = 1", "a;", "1 2", "rem(1)", "(1", "2 ^ 3", "1" * 19, "{", "abcde",
                     "-" * 31 + "1", "1" + " " * 1000, "a < 1", "tower(1, 2)"):
            with self.subTest(text):
                self.refused(BadForm, sheet.set_cell, "a", text)
                self.refused(BadForm, sheet.set_cell, "b", text)
                self.refused(BadForm, sheet.value_of_formula, text)
        self.assertEqual(state(sheet), before)

    def test_rings(self):
        sheet = sheet_of(a="b + c", b="d", d="e * f")
        before = state(sheet)
        for name, text in (
            ("x", "x"), ("x", "1 + 2^x"), ("d", "d + 1"), ("d", "a"), ("e", "a"), ("f", "1 + b"), ("e", "d"), ("c", "a"),
            ("b", "a"), ("f", "c + (a - a)"), ("e", "rem(b, 3)"),
        ):
            with self.subTest((name, text)):
                self.refused(Ring, sheet.set_cell, name, text)
                self.assertEqual(state(sheet), before)
        # No ring: the cell's own old formula does not count.
        sheet.set_cell("b", "e")
        sheet.set_cell("d", "b")
        sheet.set_cell("a", "d")
        self.refused(Ring, sheet.set_cell, "e", "a")

    def test_a_ring_that_is_opened(self):
        sheet = sheet_of(a="b", b="c")
        self.refused(Ring, sheet.set_cell, "c", "a")
        sheet.clear_cell("b")
        sheet.set_cell("c", "a")
        self.refused(Ring, sheet.set_cell, "b", "c")
        self.values(sheet, a="Missing", c="Missing")

    def test_the_twelfth_and_the_thirteenth_cell(self):
        sheet = Sheet()
        for name in MANY:
            sheet.set_cell(name, "zz")
        self.assertEqual(sheet.names(), MANY)
        before = state(sheet)
        self.refused(TooLarge, sheet.set_cell, "m", "1")
        self.refused(TooLarge, sheet.set_cell, "zz", "1")
        self.assertEqual(state(sheet), before)
        sheet.set_cell("l", "1")
        self.values(sheet, l=1)
        sheet.clear_cell("c")
        sheet.set_cell("zz", "2")
        self.values(sheet, a=2, l=1, zz=2)
        self.refused(TooLarge, sheet.set_cell, "c", "1")

    def test_which_error_comes_first(self):
        sheet = Sheet()
        for name in MANY:
            sheet.set_cell(name, "zz")
        before = state(sheet)
        self.refused(NotAllowed, sheet.set_cell, "A", "(")
        self.refused(NotAllowed, sheet.set_cell, "if", "if")
        self.refused(BadForm, sheet.set_cell, "m", "m +")
        self.refused(BadForm, sheet.set_cell, "zz", "a a")
        self.refused(Ring, sheet.set_cell, "zz", "a")
        self.refused(Ring, sheet.set_cell, "m", "m")
        self.refused(TooLarge, sheet.set_cell, "m", "low(0)")
        self.assertEqual(state(sheet), before)

    def test_a_cell_with_an_error_is_set(self):
        sheet = Sheet()
        sheet.set_cell("a", "low(0)")
        self.assertEqual(sheet.names(), ["a"])
        self.assertEqual(sheet.renewed(), ["a"])
        self.assertEqual(sheet.image(), "a=low(0);")
        self.values(sheet, a="Missing")

    def test_clear_cell(self):
        sheet = sheet_of(a="b", b="1", c="2")
        sheet.clear_cell("b")
        self.assertEqual(sheet.names(), ["a", "c"])
        self.assertEqual(sheet.image(), "a=b;c=2;")
        self.values(sheet, a="Missing", b="Missing", c=2)
        before = state(sheet)
        self.refused(Missing, sheet.clear_cell, "b")
        self.assertEqual(state(sheet), before)
        sheet.set_cell("b", "4")
        self.values(sheet, a=4)


class RenewedTest(SheetCase):
    def test_behind_changes(self):
        sheet = Sheet()
        for change, expected in (
            (("b", "a + 1"), ["b"]),
            (("c", "b * b"), ["c"]),
            (("d", "7"), ["d"]),
            (("a", "3"), ["a", "b", "c"]),
            (("a", "3"), []),
            (("a", " (3) "), []),
            (("a", "03"), []),
            (("b", "a +1"), []),
            (("b", "1 + a"), ["b", "c"]),
            (("c", "(b)*b"), []),
            (("c", "b * b"), []),
            (("c", "(b * b)"), []),
            (("a", "a"), []),
            (("b", None), ["c"]),
            (("d", None), []),
            (("d", None), []),
            (("a", None), []),
            (("b", "a"), ["b", "c"]),
        ):
            name, text = change
            with self.subTest(change):
                if text is None:
                    error_of(sheet.clear_cell, name)
                else:
                    error_of(sheet.set_cell, name, text)
                self.assertEqual(sheet.renewed(), expected)

    def test_a_refused_change_leaves_it(self):
        sheet = sheet_of(b="a", a="1")
        self.assertEqual(sheet.renewed(), ["a", "b"])
        for args in (("A", "1"), ("a", "("), ("a", "b"), ("a", "a")):
            error_of(sheet.set_cell, *args)
            self.assertEqual(sheet.renewed(), ["a", "b"])
        error_of(sheet.clear_cell, "zz")
        sheet.value_of_formula("a + b")
        self.assertEqual(sheet.renewed(), ["a", "b"])

    def test_each_once_and_in_order(self):
        sheet = sheet_of(z="a + a + b", b="a", a="1", c="z + b + a", aa="0 * c")
        sheet.set_cell("a", "2")
        self.assertEqual(sheet.renewed(), ["a", "aa", "b", "c", "z"])
        sheet.clear_cell("a")
        self.assertEqual(sheet.renewed(), ["aa", "b", "c", "z"])

    def test_the_lists_are_new_ones(self):
        sheet = sheet_of(a="1", b="a")
        for function in (sheet.renewed, sheet.names):
            expected = tuple(function())
            function().append("x")
            function().clear()
            self.assertEqual(tuple(function()), expected)
        self.assertEqual(sheet.names(), ["a", "b"])


class FormulasTest(SheetCase):
    def test_formula_at(self):
        sheet = sheet_of(a=" 1-2 * (3)", b="2^(a)", c="((a + b)) - (a - 1)", d="min(1,a)")
        for name, expected in (("a", "1 - 2 * 3"), ("b", "2^a"), ("c", "a + b - (a - 1)"), ("d", "min(1, a)")):
            self.assertEqual(sheet.formula_at(name), expected)
        self.refused(Missing, sheet.formula_at, "e")
        self.assertEqual(sheet.image(), "a=1 - 2 * 3;b=2^a;c=a + b - (a - 1);d=min(1, a);")

    def test_value_of_formula(self):
        sheet = sheet_of(a="3", b="2^a", c="low(0)")
        self.assertEqual(sheet.value_of_formula("a * b"), of_int(24))
        self.assertEqual(sheet.value_of_formula(" 5"), of_int(5))
        self.refused(Missing, sheet.value_of_formula, "c")
        self.refused(Missing, sheet.value_of_formula, "x")
        self.refused(BadForm, sheet.value_of_formula, "x +")
        self.refused(TooLarge, sheet.value_of_formula, "tower(40)")
        self.assertEqual(sheet.names(), ["a", "b", "c"])

    def test_a_plain_text_of_more_than_1000_characters(self):
        # A text of 999 characters whose plain text is longer.
        sheet = sheet_of(a="1+" * 499 + "1", b="a+1")
        self.values(sheet, a=500, b=501)
        self.assertEqual(sheet.formula_at("a"), " + ".join(["1"] * 500))
        sheet.set_cell("a", "1 +" * 300 + "1")
        self.values(sheet, a=301)
        self.assertEqual(sheet.renewed(), ["a", "b"])
        sheet.set_cell("a", "1+ " * 300 + "1")
        self.assertEqual(sheet.renewed(), [])


class LoadSheetTest(SheetCase):
    def same(self, image):
        sheet = load_sheet(image)
        self.assertEqual(sheet.image(), image)
        self.assertEqual(sheet.renewed(), sheet.names())
        return sheet

    def test_single_images(self):
        self.assertEqual(state(self.same("")), ([], [], [], [], ""))
        sheet = self.same("a=3;b=2^a + 1;")
        self.values(sheet, a=3, b=9)
        sheet = self.same("a=b;b=c;c=low(0);zz=-a;")
        self.values(sheet, a="Missing", zz="Missing")
        sheet.set_cell("c", "5")
        self.values(sheet, a=5, zz=-5)
        self.assertEqual(sheet.renewed(), ["a", "b", "c", "zz"])

    def test_twelve_and_thirteen_cells(self):
        image = "".join(f"{name}=1;" for name in MANY)
        self.assertEqual(self.same(image).names(), MANY)
        for more in ("m=1;", "zz=1;"):
            self.refused(BadForm, load_sheet, image + more)
        self.refused(TooLarge, self.same(image).set_cell, "m", "1")

    def test_spoilt_images(self):
        for text in (
            "b=1;a=1;", "a=1;a=1;", "a=1;a=2;", "A=1;", "if=1;", "abcde=1;", "=1;", "len=1;", "a =1;", "a= 1;", "a=1 ;",
            "a=1; ", " a=1;", "a=1;;", ";", "a=1", "a;", "a", "1;", "a=;", "a=1;b", "a=1;b=", "a=1;b=;", "a==1;",
            "a=b=1;", "a=1;b=2", "a=(1);", "a=1+1;", "a=1 +1;", "a=1  + 1;", "a=(1 + 1);", "a=1 + (2 * 3);",
            "a=2^(b);", "a=01;", "a=min(1,2);", "a=-(1);", "a=x(1);", "a=a;", "a=b;b=a;", "a=b + 1;b=c;c=2 * a;",
            "a=1,b=1;", "a=1\n;", "a=1;\n", "a=1;c=1;b=1;", "aa=1;a=1;", "a=1 2;", "a=" + "-" * 31 + "1;", "a1=1;",
            "a=1;=2;", "==;", "a=1;b=1;a=1;",
        ):
            with self.subTest(text):
                self.refused(BadForm, load_sheet, text)

    def test_a_ring_over_names_behind(self):
        self.refused(BadForm, load_sheet, "a=d;b=1;c=a;d=c;")
        # A cell that leads to a ring, and does not stand in it.
        self.refused(BadForm, load_sheet, "a=b;b=c;c=b;")
        self.refused(BadForm, load_sheet, "a=b;b=1;c=d;d=e + a;e=d;")
        self.same("a=d;b=1;c=a;d=b;")


class PutCellsTest(SheetCase):
    def test_all_cells_are_replaced(self):
        sheet = sheet_of(a="1", b="low(0)", c="a")
        other = sheet_of(c="a + 1", d="7")
        cells = dict(other.cells)
        sheet.put_cells(cells)
        self.assertEqual(sheet.image(), "c=a + 1;d=7;")
        self.assertEqual(sheet.renewed(), ["c", "d"])
        self.values(sheet, a="Missing", b="Missing", c="Missing", d=7)
        sheet.set_cell("a", "1")
        sheet.clear_cell("d")
        self.assertEqual(list(cells), ["c", "d"])
        cells.clear()
        self.values(sheet, a=1, c=2)
        sheet.put_cells({})
        self.assertEqual(state(sheet), ([], [], [], [], ""))
        self.values(sheet, a="Missing", c="Missing")
        sheet.set_cell("z", "rem(1, 0)")
        sheet.put_cells({})
        self.values(sheet, z="Missing")


class AgainstPaperTest(SheetCase):
    """Random changes, against a plain dict of trees."""

    def compare(self, sheet, paper):
        self.assertEqual(sheet.names(), sorted(paper.trees))
        self.assertEqual(sheet.image(), paper.image(plain_text))
        self.assertEqual(sheet.renewed(), paper.renewed)
        for name in NAMES:
            self.same_value(paper, ("name", name), result_of(sheet.value_at, name))

    def same_value(self, paper, tree, found):
        self.assertEqual(found, paper.outcome(tree, value_of))
        try:
            expected = paper.outcome(tree, reckon.value)
        except reckon.Skip:
            return
        self.assertEqual(found, expected if isinstance(expected, str) else model.number(expected))

    def change(self, rng, sheet, paper):
        name = rng.choice(NAMES + ["A", "if", ""] * (rng.randrange(20) == 0))
        if rng.randrange(10) == 0:
            self.assertEqual(error_of(sheet.clear_cell, name), paper.drop(name))
            return
        text = text_for(rng, name)
        if name in paper.trees and rng.randrange(8) == 0:
            text = grammar.spaced(rng, grammar.loose_parts(rng, paper.trees[name]))
        if rng.randrange(15) == 0:
            text += rng.choice(("+", " 1", ")", ""))
        self.assertEqual(error_of(sheet.set_cell, name, text), paper.put(name, text), (name, text))

    def test_random_changes(self):
        rng = random.Random(1)
        for _ in range(25):
            sheet, paper = Sheet(), Paper()
            for _ in range(40):
                self.change(rng, sheet, paper)
                self.compare(sheet, paper)
                names = rng.choice((NAMES, sheet.names()))
                text = random_text(rng, names)
                self.same_value(paper, grammar.formula(text), result_of(sheet.value_of_formula, text))

    def test_images_are_read_back(self):
        rng = random.Random(2)
        for _ in range(25):
            sheet, paper = Sheet(), Paper()
            for _ in range(30):
                self.change(rng, sheet, paper)
            again = load_sheet(sheet.image())
            self.assertEqual(again.renewed(), sheet.names())
            self.assertEqual(state(again)[:3], state(sheet)[:3])
            self.assertEqual(again.image(), sheet.image())
            # The sheet that was read is changed on its own.
            for _ in range(5):
                paper.renewed = again.renewed()
                self.change(rng, again, paper)
                self.compare(again, paper)


if __name__ == "__main__":
    unittest.main()
