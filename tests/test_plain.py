"""[3.1], [3.5] and the heading sandreckoner/plain.py."""

import random
import re
import unittest

import grammar
import model
from sandreckoner.errors import TooLarge
from sandreckoner.formulas import read_formula
from sandreckoner.plain import plain_text, shown_text

GREAT = model.raised(model.number(100), 2)
LIMIT = 10 ** 18
A, B, C = ("name", "a"), ("name", "b"), ("name", "c")
SUMS = ("add", "sub")
PRODUCTS = ("mul", "up", "down")
BINARY = {"add": "a + b", "sub": "a - b", "mul": "a * b", "up": "a << b", "down": "a >> b"}
# A tree of each kind, and its plain text.
KINDS = [((kind, A, B), text) for kind, text in BINARY.items()] + [
    (A, "a"),
    (("int", 7), "7"),
    (("neg", A), "-a"),
    (("pow", A), "2^a"),
    (("call", "len", (A,)), "len(a)"),
    (("call", "rem", (A, B)), "rem(a, b)"),
]


def by_definition(x):
    """The text of a number by the words of [3.1], of any length."""
    if model.order(model.number(-LIMIT), x) < 0 and model.order(x, model.number(LIMIT)) < 0:
        return str(model.value_of(x))
    text = ""
    for sign, exponent in x:
        inner = by_definition(exponent)
        great = model.order(exponent, model.number(LIMIT)) >= 0
        mark = (" - " if sign < 0 else " + ") if text else ("-" if sign < 0 else "")
        text += f"{mark}2^({inner})" if great else f"{mark}2^{inner}"
    return text


class ShownTest(unittest.TestCase):
    def test_small_integers(self):
        for value in range(-300, 301):
            self.assertEqual(shown_text(model.number(value)), str(value))

    def test_decimal_integers(self):
        rng = random.Random(91)
        for _ in range(200):
            value = rng.randrange(-LIMIT, LIMIT) >> rng.randrange(60)
            if model.is_allowed(model.number(value)):
                self.assertEqual(shown_text(model.number(value)), str(value))

    def test_around_the_greatest_decimal_integer(self):
        self.assertEqual(shown_text(model.number(LIMIT - 1)), "999999999999999999")
        self.assertEqual(shown_text(model.number(1 - LIMIT)), "-999999999999999999")
        great = "2^60 - 2^57 - 2^53 + 2^48 - 2^46 - 2^43 "
        for value, ending in [(LIMIT, ""), (LIMIT + 1, " + 2^0"), (LIMIT + 2, " + 2^1"), (LIMIT + 7, " + 2^3 - 2^0")]:
            x = model.number(value)
            self.assertEqual(by_definition(x)[:40], great)
            self.assertEqual(shown_text(x), by_definition(x))
            self.assertTrue(shown_text(x).endswith(ending))
            self.assertEqual(shown_text(x).count("2^"), len(x))
            negative = shown_text(model.opposite(x))
            self.assertTrue(negative.startswith("-2^60 + 2^57 + "))
            self.assertEqual(negative, by_definition(model.opposite(x)))
        for value in (2 ** 59, 2 ** 60 - 2 ** 58, LIMIT - 2, 5 ** 25):
            self.assertEqual(shown_text(model.number(value)), str(value))
            self.assertEqual(shown_text(model.number(-value)), str(-value))

    def test_great_numbers_by_hand(self):
        power = model.power
        for x, text in [
            (model.number(2 ** 60), "2^60"),
            (model.number(-(2 ** 60)), "-2^60"),
            (model.number(2 ** 100 + 1), "2^100 + 2^0"),
            (model.number(2 ** 100 - 2), "2^100 - 2^1"),
            (model.number(-(2 ** 100) + 1), "-2^100 + 2^0"),
            (model.number(-(2 ** 100) - 2 ** 70 + 4), "-2^100 - 2^70 + 2^2"),
            (model.number(2 ** 100 + 6), "2^100 + 2^3 - 2^1"),
            (power(model.number(2 ** 59)), f"2^{2 ** 59}"),
            (power(model.number(LIMIT - 1)), "2^999999999999999999"),
            (power(model.number(2 ** 60)), "2^(2^60)"),
            (model.raised(model.number(100), 2), "2^(2^100)"),
            (model.raised(model.number(100), 3), "2^(2^(2^100))"),
            (model.opposite(model.raised(model.number(100), 3)), "-2^(2^(2^100))"),
            (model.plus(GREAT, model.number(1)), "2^(2^100) + 2^0"),
            (power(model.plus(GREAT, model.number(-5))), "2^(2^(2^100) - 2^2 - 2^0)"),
            (model.raised(model.number(65536), 1), "2^65536"),
            (model.raised((), 5), "65536"),
            (model.raised((), 6), "2^65536"),
            (model.raised((), 7), "2^(2^65536)"),
            (((-1, GREAT), (-1, model.number(70)), (1, ())), "-2^(2^(2^100)) - 2^70 + 2^0"),
        ]:
            self.assertEqual(shown_text(x), text)
            self.assertEqual(by_definition(x), text)

    def test_exponents_around_the_greatest_decimal_integer(self):
        power = model.power
        for value in (LIMIT - 2, LIMIT - 1):
            self.assertEqual(shown_text(power(model.number(value))), f"2^{value}")
            self.assertEqual(shown_text(((1, GREAT), (-1, model.number(value)))), f"2^(2^(2^100)) - 2^{value}")
        for value in (LIMIT, LIMIT + 1):
            text = by_definition(model.number(value))
            self.assertEqual(shown_text(power(model.number(value))), f"2^({text})")

    def test_random_numbers(self):
        rng = random.Random(92)
        for _ in range(300):
            x = model.random_number(rng, 7)
            text = by_definition(x)
            if len(text) <= 1000:
                self.assertEqual(shown_text(x), text)
            else:
                with self.assertRaises(TooLarge):
                    shown_text(x)

    def test_towers(self):
        for storeys in range(41):
            x = model.raised((), storeys)
            self.assertEqual(shown_text(x), by_definition(x))
            self.assertEqual(shown_text(model.opposite(x)), "-" * (storeys > 0) + by_definition(x))

    def test_1000_characters_and_more(self):
        # Only tall numbers have such long texts: a storey takes four characters.
        high = tuple((1, model.raised(model.number(2 ** 32), storeys)) for storeys in range(34, 27, -1))
        for first, second, many in [
            (2 ** 30, 2 ** 28, 999), (2 ** 33, 2 ** 32, 1000), (2 ** 36, 2 ** 32, 1001), (2 ** 36, 2 ** 34, 1002),
        ]:
            for sign in (1, -1):
                x = high + ((sign, model.number(first)), (-sign, model.number(second)))
                self.assertTrue(model.is_allowed(x))
                self.assertEqual(len(by_definition(x)), many)
                # The opposite number has a sign more in front.
                for turned, length in ((x, many), (model.opposite(x), many + 1)):
                    if length <= 1000:
                        self.assertEqual(shown_text(turned), by_definition(turned))
                    else:
                        with self.assertRaises(TooLarge):
                            shown_text(turned)


class PlainTest(unittest.TestCase):
    def test_each_kind(self):
        for tree, text in KINDS:
            self.assertEqual(plain_text(tree), text)
            self.assertEqual(read_formula(text), tree)

    def test_each_pair_of_kinds(self):
        for inner, text in KINDS:
            for kind in SUMS + PRODUCTS:
                mark = BINARY[kind].split()[1]
                wide = f"({text})"
                left = wide if kind in PRODUCTS and inner[0] in SUMS else text
                self.check((kind, inner, C), f"{left} {mark} c")
                loose = inner[0] in SUMS or kind in PRODUCTS and inner[0] in PRODUCTS
                self.check((kind, C, inner), f"c {mark} {wide if loose else text}")
            tight = f"({text})" if inner[0] in SUMS + PRODUCTS else text
            self.check(("neg", inner), f"-{tight}")
            self.check(("pow", inner), f"2^{tight}")
            for name, many in grammar.ARGUMENTS.items():
                rest = ", c" * (many - 1)
                self.check(("call", name, (inner, C)[:many]), f"{name}({text}{rest})")
            self.check(("call", "max", (C, inner)), f"max(c, {text})")

    def check(self, tree, text):
        self.assertEqual(plain_text(tree), text)
        self.assertEqual(read_formula(text), tree)

    def test_three_kinds_within_one_another(self):
        for inner, _ in KINDS:
            for middle in SUMS + PRODUCTS + ("neg", "pow"):
                for outer in SUMS + PRODUCTS + ("neg", "pow"):
                    for tree in self.within(inner, middle):
                        for whole in self.within(tree, outer):
                            self.agree(whole)

    def within(self, tree, kind):
        return [(kind, tree)] if kind in ("neg", "pow") else [(kind, tree, C), (kind, C, tree)]

    def agree(self, tree):
        text = plain_text(tree)
        self.assertEqual(text, self.by_parts(grammar.loose_parts(random.Random(0), tree, more=0)))
        self.assertEqual(read_formula(text), tree)

    def by_parts(self, parts):
        """The text of tokens with the spaces of [3.5]."""
        text = ""
        for at, part in enumerate(parts):
            wide = part in ("+", "*", "<<", ">>") or part == "-" and at > 0 and grammar.ends_operand(parts[at - 1])
            text += f" {part} " if wide else ", " if part == "," else part
        return text

    def test_random_trees(self):
        rng = random.Random(94)
        for _ in range(1000):
            tree = grammar.random_tree(rng, 5)
            if len(plain_text(tree)) <= 1000:
                self.agree(tree)

    def test_no_needless_parentheses(self):
        rng = random.Random(95)
        for _ in range(300):
            tree = grammar.random_tree(rng, 4)
            text = plain_text(tree)
            if len(text) > 1000:
                continue
            for at, sign in enumerate(text):
                if sign == "(" and (at == 0 or not text[at - 1].isalpha()):
                    end = next(index for index in range(at, len(text)) if self.depth(text[at:index + 1]) == 0)
                    less = text[:at] + text[at + 1:end] + text[end + 1:]
                    self.assertNotEqual(grammar.formula(less), tree, text)

    def depth(self, text):
        return text.count("(") - text.count(")")

    def test_other_texts_of_a_tree(self):
        rng = random.Random(96)
        for _ in range(300):
            tree = grammar.random_tree(rng, 4)
            text = grammar.spaced(rng, grammar.loose_parts(rng, tree))
            if grammar.formula(text) is not None:
                self.assertEqual(plain_text(read_formula(text)), plain_text(tree))

    def test_by_hand(self):
        for text, plain in [
            ("1-2^x*3", "1 - 2^x * 3"),
            ("((a))", "a"),
            ("--a", "--a"),
            ("a--b", "a - -b"),
            ("2^(2^(a))", "2^2^a"),
            ("-(2^a)", "-2^a"),
            ("(-a)<<b", "-a << b"),
            ("a-(b-c)-(a-b)", "a - (b - c) - (a - b)"),
            ("(a*b)*c*(a*b)", "a * b * c * (a * b)"),
            ("rem((a),(b+c))", "rem(a, b + c)"),
            ("2^(a+1)", "2^(a + 1)"),
            ("(a+b)", "a + b"),
            ("2^(3)", "2^3"),
        ]:
            self.assertEqual(plain_text(read_formula(text)), plain)

    def test_long_rows(self):
        for mark in "+-*":
            text = plain_text(read_formula(mark.join("a" * 500)))
            self.assertEqual(text, f" {mark} ".join("a" * 500))
        text = plain_text(read_formula("a" + "<<a*a" * 199))
        self.assertEqual(text, "a" + " << a * a" * 199)

    def test_30_levels(self):
        for opening, closing, many in [
            ("-(a + ", ")", 15), ("2^(", " * b)", 15), ("a * (b - ", ")", 30), ("min(a, ", ")", 30), ("-", "", 30),
        ]:
            text = opening * many + "x" + closing * many
            self.assertEqual(plain_text(read_formula(text)), text)

    def test_spaces(self):
        rng = random.Random(97)
        for _ in range(200):
            text = plain_text(grammar.random_tree(rng, 5))
            self.assertIsNone(re.search(r"  |\( | \)|^ | $| ,|,[^ ]", text))


if __name__ == "__main__":
    unittest.main()
