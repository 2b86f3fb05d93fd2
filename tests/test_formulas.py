"""[3.2], [3.3] and the heading sandreckoner/formulas.py."""

import random
import unittest

import grammar
from sandreckoner.errors import BadForm, ReckonError
from sandreckoner.formulas import names_of, read_formula

A, B, C = ("name", "a"), ("name", "b"), ("name", "c")
ONE, TWO, THREE = ("int", 1), ("int", 2), ("int", 3)
TREES = [
    ("0", ("int", 0)),
    ("2", TWO),
    ("a", A),
    ("(a)", A),
    ("((a))", A),
    ("a + b", ("add", A, B)),
    ("a - b", ("sub", A, B)),
    ("a * b", ("mul", A, B)),
    ("a << b", ("up", A, B)),
    ("a >> b", ("down", A, B)),
    ("-a", ("neg", A)),
    ("2^a", ("pow", A)),
    ("--a", ("neg", ("neg", A))),
    ("2^2^a", ("pow", ("pow", A))),
    ("-2^a", ("neg", ("pow", A))),
    ("2^-a", ("pow", ("neg", A))),
    ("a+b-c", ("sub", ("add", A, B), C)),
    ("a-b+c", ("add", ("sub", A, B), C)),
    ("a-(b+c)", ("sub", A, ("add", B, C))),
    ("a*b>>c", ("down", ("mul", A, B), C)),
    ("a<<b*c", ("mul", ("up", A, B), C)),
    ("a<<(b*c)", ("up", A, ("mul", B, C))),
    ("a+b*c", ("add", A, ("mul", B, C))),
    ("a*b+c", ("add", ("mul", A, B), C)),
    ("a<<b+c", ("add", ("up", A, B), C)),
    ("a+b>>c", ("add", A, ("down", B, C))),
    ("(a+b)*c", ("mul", ("add", A, B), C)),
    ("a*(b+c)", ("mul", A, ("add", B, C))),
    ("-a+b", ("add", ("neg", A), B)),
    ("-a*b", ("mul", ("neg", A), B)),
    ("a*-b", ("mul", A, ("neg", B))),
    ("a--b", ("sub", A, ("neg", B))),
    ("a+-b", ("add", A, ("neg", B))),
    ("-(a+b)", ("neg", ("add", A, B))),
    ("-(a*b)", ("neg", ("mul", A, B))),
    ("2^a*b", ("mul", ("pow", A), B)),
    ("2^(a*b)", ("pow", ("mul", A, B))),
    ("2^a+1", ("add", ("pow", A), ONE)),
    ("2^3", ("pow", THREE)),
    ("2*3", ("mul", TWO, THREE)),
    ("2^2", ("pow", TWO)),
    ("a<<2^b", ("up", A, ("pow", B))),
    ("rem(a,b)", ("call", "rem", (A, B))),
    ("bit(a,b)", ("call", "bit", (A, B))),
    ("len(a)", ("call", "len", (A,))),
    ("low(a)", ("call", "low", (A,))),
    ("abs(a)", ("call", "abs", (A,))),
    ("min(a,b)", ("call", "min", (A, B))),
    ("max(a,b)", ("call", "max", (A, B))),
    ("tower(a)", ("call", "tower", (A,))),
    ("tower (a)", ("call", "tower", (A,))),
    ("2^tower(a)", ("pow", ("call", "tower", (A,)))),
    ("-len((a+b))", ("neg", ("call", "len", (("add", A, B),)))),
    ("min(a+b,max(b*c,-c))", ("call", "min", (("add", A, B), ("call", "max", (("mul", B, C), ("neg", C)))))),
    ("rem((a),(b))*2", ("mul", ("call", "rem", (A, B)), TWO)),
    ("123456789012345678", ("int", 123456789012345678)),
    ("999999999999999999+0", ("add", ("int", 10 ** 18 - 1), ("int", 0))),
    ("z", ("name", "z")),
    ("abcd", ("name", "abcd")),
    ("re", ("name", "re")),
    ("remm", ("name", "remm")),
    ("i", ("name", "i")),
    ("iff", ("name", "iff")),
]


class FormulasCase(unittest.TestCase):
    def refuse(self, text):
        with self.assertRaises(ReckonError) as caught:
            read_formula(text)
        self.assertIs(type(caught.exception), BadForm, text)

    def agree(self, text):
        """What the package and the second reader say of a text is the same."""
        expected = grammar.formula(text)
        if expected is None:
            self.refuse(text)
        else:
            self.assertEqual(read_formula(text), expected, text)


class TreesTest(FormulasCase):
    def test_by_hand(self):
        for text, tree in TREES:
            self.assertEqual(read_formula(text), tree, text)
            self.assertEqual(grammar.formula(text), tree, text)

    def test_spaces(self):
        rng = random.Random(82)
        for text, tree in TREES:
            parts = grammar.cut(text)
            self.assertEqual(read_formula("  ".join(parts)), tree)
            self.assertEqual(read_formula("  " + " ".join(parts) + "   "), tree)
            for _ in range(5):
                self.assertEqual(read_formula(grammar.spaced(rng, parts)), tree)

    def test_random_trees(self):
        rng = random.Random(83)
        many = 0
        for _ in range(1500):
            tree = grammar.random_tree(rng, rng.randrange(6))
            text = grammar.spaced(rng, grammar.loose_parts(rng, tree))
            if len(text) <= 1000:
                self.agree(text)
                many += read_formula(text) == tree if grammar.formula(text) else 0
        self.assertGreater(many, 1000)

    def test_grouping_of_three(self):
        marks = {"+": "add", "-": "sub", "*": "mul", "<<": "up", ">>": "down"}
        for first, kind in marks.items():
            for second, other in marks.items():
                if kind in ("add", "sub") and other not in ("add", "sub"):
                    expected = (kind, A, (other, B, C))
                else:
                    expected = (other, (kind, A, B), C)
                self.assertEqual(read_formula(f"a {first} b {second} c"), expected)
                self.assertEqual(read_formula(f"(a {first} b) {second} c"), (other, (kind, A, B), C))
                self.assertEqual(read_formula(f"a {first} (b {second} c)"), (kind, A, (other, B, C)))

    def test_long_rows(self):
        for mark, kind in (("+", "add"), ("-", "sub"), ("*", "mul")):
            tree = A
            for _ in range(499):
                tree = (kind, tree, A)
            found = read_formula(mark.join("a" * 500))
            while tree != A:
                self.assertEqual((found[0], found[2]), (tree[0], tree[2]))
                found, tree = found[1], tree[1]
            self.assertEqual(found, A)

    def test_length(self):
        self.assertEqual(read_formula(" " * 999 + "a"), A)
        self.assertEqual(read_formula("a" + " " * 999), A)
        self.refuse(" " * 1000 + "a")
        self.refuse("a" + " " * 1000)
        self.refuse("+".join("a" * 501))
        self.assertEqual(names_of(read_formula("+".join("a" * 500) + " ")), ["a"])


class WordsTest(FormulasCase):
    def test_words_that_are_no_names(self):
        for word in [
            "abcde", "A", "aB", "Ab", "ABCD", "abcD", "if", "else", "turn", "show", "rem", "bit", "len", "low", "abs",
            "min", "max", "tower", "towers", "verylongname", "If", "REM", "Tower",
        ]:
            for text in (word, f"1 + {word}", f"({word})", f"-{word}", f"2^{word}", f"len({word})", f"{word} * 2"):
                self.refuse(text)

    def test_calls_of_no_functions(self):
        for word in ["a", "abcd", "sum", "lenn", "tow", "if", "turn", "show", "else", "REM", "Len", "2", "abcde"]:
            self.refuse(f"{word}(a)")
            self.refuse(f"{word}(a, b)")

    def test_numbers_of_arguments(self):
        for name, many in grammar.ARGUMENTS.items():
            self.refuse(f"{name}()")
            self.refuse(f"{name}(")
            self.refuse(f"{name})")
            self.refuse(f"{name} a")
            for other in range(1, 5):
                text = f"{name}({', '.join('a' * other)})"
                if other == many:
                    self.assertEqual(read_formula(text), ("call", name, (A,) * many))
                else:
                    self.refuse(text)
                self.refuse(f"{name}({', '.join('a' * other)},)")
                self.refuse(f"{name}(,{', '.join('a' * other)})")
                self.refuse(f"{name}({' '.join('a' * other)} b)")

    def test_digits(self):
        for text in ("00", "01", "007", "0000000000000000001", "1234567890123456789", "1" * 19, "1" * 100, "0" * 18):
            self.refuse(text)
            self.refuse(f"a + {text}")
            self.refuse(f"2^{text}")
        for text in ("0", "9", "10", "100", "1" * 18, "9" * 18, "1" + "0" * 17):
            self.assertEqual(read_formula(text), ("int", int(text)))
            self.assertEqual(read_formula(f"2^{text}"), ("pow", ("int", int(text))))
            self.assertEqual(read_formula(f"-{text}"), ("neg", ("int", int(text))))

    def test_powers(self):
        for text in ("2^", "12^3", "a2^3", "1 2^3", "2 ^3", "2 ^ 3", "2^+3", "2^*", "2^2^", "a^2", "3^2", "a 2^3", "02^3"):
            self.refuse(text)


class LevelsTest(FormulasCase):
    def test_each_kind_of_level(self):
        for opening, closing in [
            ("(", ")"), ("len(", ")"), ("-", ""), ("2^", ""), ("min(a, ", ")"), ("min(", ", b)"), ("(a + ", ")"),
            ("(a * ", ")"), ("(1 + 2 * ", ")"), ("(", " << 2)"), ("(2 - ", " * b)"),
        ]:
            for inner in ("a", "1"):
                text = opening * 30 + inner + closing * 30
                self.assertIsNotNone(grammar.formula(text), text)
                self.agree(text)
                read_formula(text)
                self.refuse(opening * 31 + inner + closing * 31)
                self.assertIsNone(grammar.formula(opening * 31 + inner + closing * 31))

    def test_mixed_levels(self):
        rng = random.Random(84)
        levels = [("(", ")"), ("len(", ")"), ("-", ""), ("2^", ""), ("max(a,", ")"), ("bit(", ",b)"), ("(a-", ")")]
        for many in (29, 30, 31, 32):
            for _ in range(30):
                text = "x"
                for _ in range(many):
                    opening, closing = rng.choice(levels)
                    text = opening + text + closing
                self.assertEqual(grammar.formula(text) is None, many > 30)
                self.agree(text)

    def test_levels_beside_one_another(self):
        for many in (2, 8):
            text = "(" * 30 + "a" + ")" * 30
            self.assertIsNotNone(read_formula(" + ".join([text] * many)))
            self.assertIsNotNone(read_formula(" * ".join(["-" * 30 + "a"] * many)))
            self.refuse(" + ".join([text] * many + ["(" * 31 + "a" + ")" * 31]))
        self.assertIsNotNone(read_formula("-" * 29 + "(a) + " + "-" * 30 + "a"))
        self.refuse("-" * 30 + "(a)")
        self.refuse("2^" * 30 + "len(a)")
        self.refuse("len(" * 30 + "-a" + ")" * 30)

    def test_many_levels(self):
        for opening in ("(", "-", "2^", "len("):
            self.refuse((opening * 1000)[:999])
            self.refuse((opening * 1000)[:996] + "a")


class SpoiltTest(FormulasCase):
    SAMPLES = [
        "a", "12", "a + b", "-a * 2^b", "2^(a - 1) << 3", "rem(a, 10) + bit(b, 0)", "(a + b) * (a - b) - a >> 2",
        "min(len(x), tower(3)) - -abs(low(y))", "2^2^2^x + ((y))", "a*b*c<<1>>2",
    ]
    TOKENS = [
        "a", "1", "0", "+", "-", "*", "<<", ">>", "(", ")", ",", "2^", "len", "rem", "tower", "if", "show", "=", ";",
        "{", "}", "<", "<=", "==", "!=", "abcde", "A", "01",
    ]

    def test_one_token_spoilt(self):
        for sample in self.SAMPLES:
            parts = grammar.cut(sample)
            for at in range(len(parts) + 1):
                self.agree(" ".join(parts[:at] + parts[at + 1:]))
                self.agree(" ".join(parts[:at] + parts[at:at + 1] * 2 + parts[at + 1:]))
                self.agree(" ".join(parts[:at] + parts[at:at + 2][::-1] + parts[at + 2:]))
                for token in self.TOKENS:
                    self.agree(" ".join(parts[:at] + [token] + parts[at:]))
                    self.agree(" ".join(parts[:at] + [token] + parts[at + 1:]))

    def test_one_character_spoilt(self):
        for sample in self.SAMPLES:
            for at in range(len(sample) + 1):
                self.agree(sample[:at] + sample[at + 1:])
                for sign in "a1 0+-*(),^2<>={};A.!?_":
                    self.agree(sample[:at] + sign + sample[at:])
                    self.agree(sample[:at] + sign + sample[at + 1:])

    def test_short_rows_of_tokens(self):
        tokens = ["a", "1", "+", "-", "*", "(", ")", ",", "2^", "len", "rem"]
        rows = [[]]
        for _ in range(4):
            rows = [row + [token] for row in rows for token in tokens]
            for row in rows:
                self.agree(" ".join(row))

    def test_nothing(self):
        for text in ("", " ", "      ", "()", "( )", "(())"):
            self.refuse(text)


class NamesTest(unittest.TestCase):
    def test_by_hand(self):
        for text, expected in [
            ("1", []),
            ("a", ["a"]),
            ("b + a", ["a", "b"]),
            ("b * a - b << a", ["a", "b"]),
            ("2^z + -y", ["y", "z"]),
            ("rem(ab, a) + len(aa) + min(b, max(ba, a))", ["a", "aa", "ab", "b", "ba"]),
            ("tower(3) + abs(low(2))", []),
            ("zz + z + zzz + a", ["a", "z", "zz", "zzz"]),
        ]:
            self.assertEqual(names_of(read_formula(text)), expected)

    def test_random_trees(self):
        rng = random.Random(85)
        for _ in range(300):
            tree = grammar.random_tree(rng, 5)
            parts = grammar.loose_parts(rng, tree, more=0)
            self.assertEqual(names_of(tree), sorted({part for part in parts if grammar.is_name(part)}))

    def test_long_rows(self):
        self.assertEqual(names_of(read_formula("-".join("ba" * 250))), ["a", "b"])

    def test_lists_are_new_ones(self):
        tree = read_formula("b + a")
        first = names_of(tree)
        first.append("c")
        self.assertEqual(names_of(tree), ["a", "b"])
        self.assertEqual(tree, ("add", B, A))


if __name__ == "__main__":
    unittest.main()
