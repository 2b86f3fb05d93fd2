"""[3.2] and [3.6], what texts are made of, and the heading sandreckoner/tokens.py."""

import random
import unittest

import grammar
from sandreckoner.errors import BadForm
from sandreckoner.tokens import tokens

MARKS = ["+", "-", "*", "<<", ">>", "(", ")", ",", "=", ";", "{", "}", "<", "<=", "==", "!="]
PARTS = MARKS + ["2^", "0", "1", "2", "22", "007", "123456789012345678901", "a", "if", "show", "Abc", "verylongword", "Z"]


class TokensTest(unittest.TestCase):
    def refuse(self, text):
        with self.assertRaises(BadForm):
            tokens(text)

    def test_each_token_alone(self):
        for part in PARTS:
            for text in (part, " " + part, part + " ", "   " + part + "    "):
                self.assertEqual(tokens(text), [part])

    def test_nothing(self):
        for text in ("", " ", "     ", " " * 1000):
            self.assertEqual(tokens(text), [])

    def test_two_tokens_with_a_space_between(self):
        for first in PARTS:
            for second in PARTS:
                for space in (" ", "   "):
                    self.assertEqual(tokens(first + space + second), [first, second])

    def test_texts_by_hand(self):
        for text, expected in [
            ("a=2^a;", ["a", "=", "2^", "a", ";"]),
            ("turn 3{show a;}", ["turn", "3", "{", "show", "a", ";", "}"]),
            ("turn3", ["turn", "3"]),
            ("3turn", ["3", "turn"]),
            ("a2", ["a", "2"]),
            ("a2^3", ["a", "2^", "3"]),
            ("12 2^3", ["12", "2^", "3"]),
            ("2^2^2", ["2^", "2^", "2"]),
            ("2^22", ["2^", "22"]),
            ("22", ["22"]),
            ("2 2", ["2", "2"]),
            ("rem(a,b)", ["rem", "(", "a", ",", "b", ")"]),
            ("abCDe f", ["abCDe", "f"]),
            ("a+-b", ["a", "+", "-", "b"]),
        ]:
            self.assertEqual(tokens(text), expected)

    def test_the_longest_mark_is_read(self):
        for text, expected in [
            ("<", ["<"]), ("<<", ["<<"]), ("<<<", ["<<", "<"]), ("<<<<", ["<<", "<<"]), ("<=", ["<="]),
            ("<<=", ["<<", "="]), ("<==", ["<=", "="]), ("<<==", ["<<", "=="]), ("=", ["="]), ("==", ["=="]),
            ("===", ["==", "="]), ("====", ["==", "=="]), ("=<", ["=", "<"]), ("=<<", ["=", "<<"]),
            ("!=", ["!="]), ("!==", ["!=", "="]), (">>", [">>"]), (">>>>", [">>", ">>"]), ("< <", ["<", "<"]),
            ("< =", ["<", "="]), ("= =", ["=", "="]), ("a<-b", ["a", "<", "-", "b"]), ("a<2^b", ["a", "<", "2^", "b"]),
        ]:
            self.assertEqual(tokens(text), expected)

    def test_powers_of_two(self):
        for text in ("12^3", "22^3", "02^3", "2 ^3", "2 ^ 3", "^", "3^2", "a^2", "2^^", "^2", "2^ ^", "2^3^4", "10^2"):
            self.refuse(text)
        self.assertEqual(tokens("2^ 3"), ["2^", "3"])
        self.assertEqual(tokens("1 2^3"), ["1", "2^", "3"])
        self.assertEqual(tokens("2^"), ["2^"])

    def test_characters_that_belong_to_nothing(self):
        for sign in "!\"#$&'./:>?@[\\]^_`|~":
            for text in (sign, "a" + sign, sign + "a", "1 " + sign, "a = 1" + sign + " + 2", " " * 500 + sign):
                self.refuse(text)
        for text in (">", ">=", "> >", ">>>", "! =", "!", "a > b", "a!b"):
            self.refuse(text)

    def test_each_pair_of_characters(self):
        signs = [chr(code) for code in range(32, 127) if chr(code) != "%"]
        for first in signs:
            for second in signs:
                text = first + second
                expected = grammar.cut_or_nothing(text)
                if expected is None:
                    self.refuse(text)
                else:
                    self.assertEqual(tokens(text), expected)

    def test_random_rows_of_tokens(self):
        rng = random.Random(81)
        for _ in range(500):
            parts = [rng.choice(PARTS) for _ in range(rng.randrange(30))]
            self.assertEqual(tokens(grammar.spaced(rng, parts)), parts)

    def test_length(self):
        for text, expected in [
            ("a" * 1000, ["a" * 1000]),
            ("1" * 1000, ["1" * 1000]),
            ("+" * 1000, ["+"] * 1000),
            ("2^" * 500, ["2^"] * 500),
            (" " * 999 + "a", ["a"]),
            ("a" + " " * 999, ["a"]),
        ]:
            self.assertEqual(tokens(text), expected)
            self.refuse(text + " ")
            self.refuse(" " + text)
            self.refuse(text + "+")
        self.refuse(" " * 1001)
        self.refuse("a" * 5000)

    def test_lists_are_new_ones(self):
        first = tokens("a+1")
        first.append("x")
        self.assertEqual(tokens("a+1"), ["a", "+", "1"])


if __name__ == "__main__":
    unittest.main()
