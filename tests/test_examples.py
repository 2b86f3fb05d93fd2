"""The examples of the interface, as they stand in the document."""

import pathlib
import unittest

from sandreckoner import errors

README = pathlib.Path(__file__).resolve().parent.parent / "README.md"

FORMS = """
>>> from sandreckoner.forms import of_int, size_of, to_int
>>> of_int(3)
((1, ((1, ((1, ()),)),)), (-1, ()))
>>> size_of(of_int(3))
5
>>> to_int(((1, ((1, ((1, ()),)),)), (-1, ())))
3
"""
SUMS = """
>>> from sandreckoner.forms import of_int
>>> from sandreckoner.sums import add, sum_terms
>>> great = ((1, ((1, of_int(100)),)),)
>>> add(great, of_int(-1)) == great + ((-1, ()),)
True
>>> sum_terms([(1, ()), (1, ()), (1, of_int(1))]) == of_int(4)
True
"""
PRODUCTS = """
>>> from sandreckoner.forms import of_int
>>> from sandreckoner.products import multiply, shift
>>> shift(of_int(12), of_int(-2)) == of_int(3)
True
>>> shift(of_int(12), of_int(-3))
raises BadRange
"""
NOTATION = """
>>> from sandreckoner.forms import of_int
>>> from sandreckoner.notation import number_text, read_number
>>> number_text(of_int(-6))
'-[+[+[+[0]]]-[0]]+[+[0]]'
>>> read_number("+[0]+[0]")
raises BadForm
"""
REMAINDERS = """
>>> from sandreckoner.forms import of_int
>>> from sandreckoner.remainders import powers_of_two, remainder
>>> remainder(of_int(-1), 10)
9
>>> powers_of_two(12)
(2, 2)
"""
DIGITS = """
>>> from sandreckoner.digits import digits_from, floor_shift, length
>>> from sandreckoner.forms import of_int, to_int
>>> digits_from(of_int(-6), of_int(0), 5)
[0, 1, 0, 1, 1]
>>> to_int(floor_shift(of_int(-7), of_int(1)))
-4
>>> to_int(length(of_int(-8)))
4

>>> from sandreckoner.digits import digit_at
>>> from sandreckoner.forms import of_int
>>> digit_at(of_int(1), of_int(-1))
raises NotAllowed
"""
LAST = """
>>> from sandreckoner.forms import of_int
>>> from sandreckoner.last import last_digits, lead
>>> lead(of_int(-22), 3)
5
>>> last_digits(of_int(-1234), 2)
34
"""
FORMULAS = """
>>> from sandreckoner.formulas import read_formula
>>> read_formula("1 - 2^x*3")
('sub', ('int', 1), ('mul', ('pow', ('name', 'x')), ('int', 3)))
"""
PROGRAMS = """
>>> from sandreckoner.programs import run_program
>>> run_program("a = 1; turn 3 { a = 2^a; show a; }")
(['2', '4', '16'], 'ok', 11)
"""
TURNS = """
>>> from sandreckoner.forms import of_int
>>> from sandreckoner.turns import cycle_of, joined, state_behind
>>> table = ((1, 1, 0, 0), (1, 0, 0, 0), (0, 0, 1, -1))
>>> cycle_of(table, (1, 0, 0), 2)
(0, 6)
>>> state_behind(table, (1, 0, 0), of_int(2), 5)
(2, 1, 3)
>>> joined(table, table, 5)
((2, 1, 0, 0), (1, 1, 0, 0), (0, 0, 1, 3))
"""
RECUR = """
>>> from sandreckoner.forms import of_int, to_int
>>> from sandreckoner.recur import grown, sequence_at
>>> sequence_at([2], [3], of_int(4), 12)
0
>>> to_int(grown(True, of_int(1), of_int(-3), of_int(4)))
-29
"""
WORDS = """
>>> from sandreckoner.words import inverse_word
>>> inverse_word("abB")
'bBA'
"""
BAUM = """
>>> from sandreckoner.baum import inverse_element, multiply_elements
>>> from sandreckoner.forms import of_int
>>> one = of_int(1)
>>> doubling = ((), (), one)
>>> adding = (one, (), ())
>>> multiply_elements(adding, doubling) == (one, (), one)
True
>>> multiply_elements(doubling, adding) == (one, one, one)
True
>>> inverse_element((one, (), one)) == (of_int(-1), of_int(-1), of_int(-1))
True

>>> from sandreckoner.baum import are_same, is_unit
>>> is_unit("baBabAB" + "AA")
True
>>> is_unit("baBabAB" + "A")
False
>>> are_same("baBabAB", "aa")
True
"""
BAUM_TRACE = """
>>> from sandreckoner.baum_trace import check_trace, trace
>>> trace("bB")
([(0, ())], 0, ((), (), ()))
>>> trace("Bab")
([], 2, None)
>>> check_trace("bBbB", [(1, ()), (0, ())])
(0, ((), (), ()))
>>> check_trace("baBabABAA", [(1, ((1, ()),))])
raises Missing
"""
HIGMAN = """
>>> from sandreckoner.higman import are_same, is_unit, length_of
>>> is_unit("abA" + "BB")
True
>>> are_same("aab", "bbbbaa")
True
>>> are_same("ab", "ba")
False
>>> [length_of(word) for word in ["", "cA", "ab", "bd", "bdb"]]
[0, 0, 1, 2, 3]
"""
HIGMAN_TRACE = """
>>> from sandreckoner.forms import of_int
>>> from sandreckoner.higman_trace import check_trace, trace
>>> trace("dab" + "ABBD")
([(1, [])], 0, [])
>>> trace("dacD") == ([(1, [("a", of_int(1)), ("c", of_int(1))])], 1, [])
True
>>> trace("ca") == ([], 0, [("c", of_int(1)), ("a", of_int(1))])
True
>>> check_trace("bd", [(0, [])])
raises Missing
"""
SHEET = """
>>> from sandreckoner.sheet import Sheet
>>> sheet = Sheet()
>>> sheet.set_cell("b", "2^a + 1")
>>> sheet.set_cell("a", "3")
>>> sheet.renewed()
['a', 'b']
>>> sheet.image()
'a=3;b=2^a + 1;'
"""
DESK = r"""
>>> from sandreckoner.desk import run_script
>>> run_script("set a = 2^100\nset b = 2^a + 1\nrenewed\nshow b\nundo\nshow b")
['ok', 'ok', 'b', '2^(2^100) + 2^0', 'ok', 'missing']
"""


def steps_of(text):
    """Pairs of a line of Python and the line that is expected below it, or None."""
    found = []
    for line in text.splitlines():
        if line.startswith(">>> "):
            found.append((line[4:], None))
        elif line:
            found[-1] = (found[-1][0], line)
    return found


class ExamplesTest(unittest.TestCase):
    def follow(self, text):
        names = {}
        for line, expected in steps_of(text):
            with self.subTest(line):
                if expected is None:
                    exec(line, names)
                elif expected.startswith("raises "):
                    with self.assertRaises(errors.ReckonError) as caught:
                        eval(line, names)
                    self.assertEqual(type(caught.exception).__name__, expected.removeprefix("raises "))
                else:
                    self.assertEqual(repr(eval(line, names)), expected)

    def test_forms(self):
        self.follow(FORMS)

    def test_sums(self):
        self.follow(SUMS)

    def test_products(self):
        self.follow(PRODUCTS)

    def test_notation(self):
        self.follow(NOTATION)

    def test_remainders(self):
        self.follow(REMAINDERS)

    def test_digits(self):
        self.follow(DIGITS)

    def test_last(self):
        self.follow(LAST)

    def test_formulas(self):
        self.follow(FORMULAS)

    def test_programs(self):
        self.follow(PROGRAMS)

    def test_turns(self):
        self.follow(TURNS)

    def test_recur(self):
        self.follow(RECUR)

    def test_words(self):
        self.follow(WORDS)

    def test_baum(self):
        self.follow(BAUM)

    def test_baum_trace(self):
        self.follow(BAUM_TRACE)

    def test_higman(self):
        self.follow(HIGMAN)

    def test_higman_trace(self):
        self.follow(HIGMAN_TRACE)

    def test_sheet(self):
        self.follow(SHEET)

    def test_desk(self):
        self.follow(DESK)

    def test_readme(self):
        blocks = [block for block in README.read_text().split("```\n") if block.startswith(">>> ")]
        self.assertGreater(len(blocks), 3)
        self.follow("".join(blocks))


if __name__ == "__main__":
    unittest.main()
