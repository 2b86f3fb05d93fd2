"""One value, told by value_of over a dict, by a sheet, by a program and by a desk."""

import random
import unittest

import grammar
from paper import NAMES, random_text
from reckon import WORDS
from sandreckoner.desk import run_script
from sandreckoner.errors import BadForm, ReckonError
from sandreckoner.evaluate import value_of
from sandreckoner.formulas import read_formula
from sandreckoner.plain import shown_text
from sandreckoner.programs import run_program
from sandreckoner.sheet import Sheet

GIVEN = [
    "0", "1", "-1", "7", "-12", "2^100", "2^100 - 1", "-2^2^100", "tower(6)", "tower(7) - tower(6)", "2^2^2^70 + 2^9",
    "tower(38)", "2^200 + 2^150 - 2^60", "1000", "10000", "-2^64 - 3",
]


def told(function, *args):
    """The text of a value, or the word of its error."""
    try:
        return shown_text(function(*args))
    except ReckonError as error:
        return WORDS[type(error).__name__]


class FourWaysTest(unittest.TestCase):
    def by_a_dict(self, given, text):
        values = {name: value_of(read_formula(own), {}) for name, own in given.items()}
        return told(value_of, read_formula(text), values)

    def by_a_sheet(self, given, text):
        sheet = Sheet()
        for name, own in given.items():
            sheet.set_cell(name, own)
        found = told(sheet.value_of_formula, text)
        sheet.set_cell("res", text)
        self.assertEqual(told(sheet.value_at, "res"), found)
        # Another cell over this one, and the cells set in the other order.
        other = Sheet()
        other.set_cell("top", "res")
        other.set_cell("res", text)
        for name, own in reversed(given.items()):
            other.set_cell(name, own)
        self.assertEqual(told(other.value_at, "top"), found)
        return found

    def by_a_program(self, given, text):
        lets = "".join(f"{name} = {own}; " for name, own in given.items())
        shown, word, steps = run_program(f"{lets}show {text};")
        self.assertEqual(steps, len(given) + 1)
        self.assertEqual(len(shown), 1 if word == "ok" else 0)
        return shown[0] if word == "ok" else word

    def by_a_desk(self, given, text):
        lines = [f"set {name} = {own}" for name, own in given.items()] + [f"value {text}", f"set res = {text}", "show res"]
        lines.append(f"run {''.join(f'{name} = {own}; ' for name, own in given.items())}show {text};")
        answers = run_script("\n".join(lines))
        self.assertEqual(answers[:len(given)], ["ok"] * len(given))
        found, _, again, run = answers[len(given):]
        self.assertEqual(again, found)
        steps = len(given) + 1
        self.assertIn(run, (f"{found} ; ok {steps}", f"; {found} {steps}"))
        return found

    def same(self, given, text):
        found = [way(given, text) for way in (self.by_a_dict, self.by_a_sheet, self.by_a_program, self.by_a_desk)]
        self.assertEqual(found, [found[0]] * 4, (given, text))
        return found[0]

    def test_random_formulas(self):
        rng = random.Random(1)
        words, others = set(), 0
        for _ in range(500):
            given = {name: rng.choice(GIVEN) for name in rng.sample(NAMES, rng.randrange(5, 11))}
            found = self.same(given, random_text(rng))
            if found in WORDS.values():
                words.add(found)
            else:
                others += 1
        self.assertEqual(words, {"refused", "range", "large", "missing"})
        self.assertGreater(others, 100)

    def test_deeper_formulas(self):
        rng = random.Random(2)
        for _ in range(200):
            given = {name: rng.choice(GIVEN) for name in grammar.NAMES[:-1]}
            tree = grammar.random_tree(rng, 3)
            self.same(given, grammar.spaced(rng, grammar.loose_parts(rng, tree, more=0)))

    def test_single_ones(self):
        given = {"a": "2^100", "b": "-3"}
        for text, expected in (
            ("a + b", "2^100 - 2^2 + 2^0"), ("b * b", "9"), ("2^b", "range"), ("a >> b", "refused"), ("c", "missing"),
            ("2^a << a", "2^(2^101)"), ("2^tower(a)", "refused"), ("2^tower(39)", "large"), ("low(a - a)", "missing"),
            ("c + 2^b", "missing"), ("2^b + c", "range"), ("rem(2^a, 0 - b)", "1"), ("len(2^a)", "2^100 + 2^0"),
            (" + ".join(f"tower({storeys})" for storeys in range(39, 31, -1)), "large"),
        ):
            with self.subTest(text):
                self.assertEqual(self.same(given, text), expected)

    def test_what_is_no_formula(self):
        for text in ("", "1 +", "a b", "(", "01", "abcde", "if", "-" * 31 + "1"):
            with self.assertRaises(BadForm):
                read_formula(text)
            sheet = Sheet()
            for function, args in ((sheet.value_of_formula, [text]), (sheet.set_cell, ["a", text])):
                with self.assertRaises(BadForm):
                    function(*args)
            self.assertEqual(run_program(f"show {text};"), ([], "form", 0))
            self.assertEqual(run_script(f"set a = {text}\nvalue {text}"), ["form", "form"] if text else ["bad", "bad"])


if __name__ == "__main__":
    unittest.main()
