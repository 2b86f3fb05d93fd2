"""[3.4] and the heading sandreckoner/evaluate.py."""

import random
import unittest

import grammar
import model
import reckon
from sandreckoner.errors import BadRange, Missing, NotAllowed, ReckonError, TooLarge
from sandreckoner.evaluate import MAX_TOWER, value_of
from sandreckoner.formulas import read_formula
from sandreckoner.plain import shown_text

GREAT = model.raised(model.number(100), 2)
SMALL = range(-9, 10)


def value(text, **names):
    return value_of(read_formula(text), {name: model.number(own) for name, own in names.items()})


class ValuesCase(unittest.TestCase):
    def same(self, text, expected, **names):
        self.assertEqual(value(text, **names), model.number(expected), text)

    def fails(self, error, text, names=None):
        with self.assertRaises(ReckonError) as caught:
            value_of(read_formula(text), names or {})
        self.assertIs(type(caught.exception), error, text)


class SmallTest(ValuesCase):
    def test_integers_and_names(self):
        for own in list(SMALL) + [100, 10 ** 17]:
            self.same("a", own, a=own, b=3)
        for text in ("0", "1", "7", "123456789", "100000000000000000"):
            self.same(text, int(text))

    def test_sums_and_products(self):
        for a in SMALL:
            self.same("-a", -a, a=a)
            self.same("--a", a, a=a)
            for b in SMALL:
                self.same("a + b", a + b, a=a, b=b)
                self.same("a - b", a - b, a=a, b=b)
                self.same("a * b", a * b, a=a, b=b)
                self.same("a - b * a + -b", a - b * a - b, a=a, b=b)

    def test_shifts_and_powers(self):
        for a in range(-40, 41):
            for b in SMALL:
                names = {"a": model.number(a), "b": model.number(b)}
                if b >= 0:
                    self.same("a << b", a << b, a=a, b=b)
                    self.same("a >> b", a >> b, a=a, b=b)
                    continue
                self.fails(NotAllowed, "a >> b", names)
                if a % 2 ** -b == 0:
                    self.same("a << b", a >> -b, a=a, b=b)
                else:
                    self.fails(BadRange, "a << b", names)
            if a >= 0:
                self.same("2^a", 2 ** a, a=a)
            else:
                self.fails(BadRange, "2^a", {"a": model.number(a)})

    def test_functions(self):
        for a in range(-40, 41):
            self.same("abs(a)", abs(a), a=a)
            self.same("len(a)", abs(a).bit_length(), a=a)
            if a:
                self.same("low(a)", (a & -a).bit_length() - 1, a=a)
            for b in SMALL:
                names = {"a": model.number(a), "b": model.number(b)}
                self.same("min(a, b)", min(a, b), a=a, b=b)
                self.same("max(a, b)", max(a, b), a=a, b=b)
                if b >= 0:
                    self.same("bit(a, b)", a >> b & 1, a=a, b=b)
                else:
                    self.fails(NotAllowed, "bit(a, b)", names)
                if b >= 1:
                    self.same("rem(a, b)", a % b, a=a, b=b)
                else:
                    self.fails(NotAllowed, "rem(a, b)", names)

    def test_grouping_from_the_left(self):
        for text, expected in [
            ("9 - 4 - 3", 2), ("9 - 4 + 3", 8), ("1 << 2 << 3", 32), ("64 >> 2 >> 3", 2), ("2 * 3 << 2 >> 1", 12),
            ("7 >> 1 << 1", 6), ("3 + 4 * 5", 23), ("2^3 * 2", 16), ("-2^3", -8), ("2^2^2", 16), ("-7 >> 1", -4),
            ("1 << 2 + 3", 7), ("2^-(-3)", 8), ("--3 - -2", 5), ("(1 + 2) * (3 + 4)", 21), ("0 << -5", 0),
        ]:
            self.same(text, expected)

    def test_random_trees(self):
        rng = random.Random(111)
        names = {name: rng.randrange(-9, 30) for name in grammar.NAMES[:-1]}
        numbers = {name: model.number(own) for name, own in names.items()}
        seen = {}
        for _ in range(6000):
            tree = grammar.random_tree(rng, rng.randrange(1, 5))
            try:
                expected = reckon.value(tree, names)
            except reckon.Skip:
                continue
            except ReckonError as error:
                with self.assertRaises(ReckonError) as caught:
                    value_of(tree, numbers)
                self.assertIs(type(caught.exception), type(error), tree)
                seen[type(error)] = seen.get(type(error), 0) + 1
                continue
            self.assertEqual(value_of(tree, numbers), model.number(expected), tree)
            seen[None] = seen.get(None, 0) + 1
        self.assertEqual(set(seen), {None, BadRange, Missing, NotAllowed, TooLarge})
        self.assertGreater(min(seen.values()), 10)


class ErrorsTest(ValuesCase):
    # Formulas that raise an error each.
    ERRORS = [
        ("x", Missing),
        ("low(0)", Missing),
        ("1 << -1", BadRange),
        ("2^-1", BadRange),
        ("3 >> -1", NotAllowed),
        ("rem(5, 0)", NotAllowed),
        ("rem(5, 10001)", NotAllowed),
        ("bit(5, -1)", NotAllowed),
        ("tower(-1)", NotAllowed),
        ("tower(41)", NotAllowed),
        ("tower(40)", TooLarge),
        ("2^tower(39)", TooLarge),
    ]

    def test_each_error_alone(self):
        for text, error in self.ERRORS:
            self.fails(error, text)

    def test_the_first_error_from_the_left_to_the_right(self):
        for text, error in self.ERRORS:
            for other, later in self.ERRORS:
                for mark in ("+", "-", "*", "<<", ">>"):
                    self.fails(error, f"({text}) {mark} ({other})")
                    self.fails(error, f"1 + ({text}) {mark} ({other}) * x")
                for name in ("rem", "bit", "min", "max"):
                    self.fails(error, f"{name}({text}, {other})")
                    self.fails(later, f"{name}(1, {other})")
                self.fails(error, f"-({text}) * 2^({other})")
                self.fails(error, f"len(2^({text})) - ({other})")
                self.fails(later, f"1 - 2 * ({other}) + ({text})")

    def test_operands_come_before_the_operation(self):
        for text, error in self.ERRORS:
            self.fails(error, f"1 >> (-1 * ({text}))")
            self.fails(error, f"rem(1, 0 * ({text}))")
            self.fails(error, f"bit(1, min(-1, {text}))")
            self.fails(error, f"tower(41 + ({text}))")
            self.fails(error, f"1 << (-1 + ({text}))")
            self.fails(error, f"low(0 * ({text}))")
            self.fails(error, f"0 * ({text})")

    def test_an_operation_on_the_left_comes_before_operands_on_the_right(self):
        for text, _ in self.ERRORS:
            self.fails(BadRange, f"(1 << -1) + ({text})")
            self.fails(BadRange, f"1 << -1 << ({text})")
            self.fails(NotAllowed, f"1 >> -1 >> ({text})")
            self.fails(TooLarge, f"2^tower(39) - ({text})")
            self.fails(Missing, f"x - ({text})")

    def test_names_without_a_value(self):
        for text in ("x", "-x", "2^x", "a + x", "x + a", "x * 0", "0 * x", "min(a, x)", "rem(x, 0)", "len(x)"):
            self.fails(Missing, text, {"a": (), "y": ()})
            self.fails(Missing, text, {"a": ()})

    def test_places_that_are_not_allowed(self):
        great = {"g": GREAT, "n": model.opposite(GREAT)}
        for text in ("1 >> n", "g >> n", "bit(g, n)", "bit(0, n)", "0 >> n", "rem(g, g)", "rem(0, n)", "rem(0, 2^14)"):
            self.fails(NotAllowed, text, great)
        for text in ("1 << n", "2^n", "2^g << (-g - 1)", "2^(-1)"):
            self.fails(BadRange, text, great)
        self.assertEqual(value_of(read_formula("2^g << n"), great), model.number(1))
        self.assertEqual(value_of(read_formula("0 << n"), great), ())

    def test_moduli(self):
        names = {"g": GREAT}
        for m in (1, 2, 9999, 10000):
            self.assertEqual(value_of(read_formula(f"rem(g, {m})"), names), model.number(model.remainder(GREAT, m)))
            self.assertEqual(value_of(read_formula(f"rem(-7, {m})"), names), model.number(-7 % m))
        for m in ("0", "-1", "10001", "16383", "16384", "2^60", "-(2^60)", "g", "-g", "-10000"):
            for x in ("0", "5", "g"):
                self.fails(NotAllowed, f"rem({x}, {m})", names)

    def test_integers_that_are_not_allowed(self):
        self.assertFalse(model.is_allowed(model.number(768614336404564650)))
        self.fails(TooLarge, "768614336404564650")
        self.fails(TooLarge, "x - 768614336404564650", {"x": ()})
        self.fails(TooLarge, "768614336404564650 - x")
        self.fails(Missing, "x - 768614336404564650")


class GreatTest(ValuesCase):
    def test_sums_and_products(self):
        rng = random.Random(112)
        for _ in range(60):
            x, y = model.random_number(rng, 4), model.random_number(rng, 4)
            names = {"x": x, "y": y}
            for text, expected in [
                ("x + y", model.plus(x, y)),
                ("x - y", model.plus(x, model.opposite(y))),
                ("x * y", model.times(x, y)),
                ("-x", model.opposite(x)),
                ("abs(x)", x if model.order(x, ()) >= 0 else model.opposite(x)),
                ("min(x, y)", x if model.order(x, y) <= 0 else y),
                ("max(x, y)", x if model.order(x, y) >= 0 else y),
            ]:
                if model.is_allowed(expected):
                    self.assertEqual(value_of(read_formula(text), names), expected)
                else:
                    self.fails(TooLarge, text, names)

    def test_by_hand(self):
        names = {"g": GREAT}
        power = model.power
        for text, expected in [
            ("2^2^100", GREAT),
            ("2^g", power(GREAT)),
            ("2^2^g", model.raised(GREAT, 2)),
            ("1 << g", power(GREAT)),
            ("2^(g + 1) - 2^g", power(GREAT)),
            ("2^g >> g", model.number(1)),
            ("(2^g - 1) >> (g - 1)", model.number(1)),
            ("2^g - (1 >> (g - 1))", power(GREAT)),
            ("len(2^g)", model.following(GREAT)),
            ("len(2^g - 1)", GREAT),
            ("low(2^g - 2^2^100)", model.power(model.number(100))),
            ("bit(2^g - 1, 12345)", model.number(1)),
            ("rem(2^g, 7)", model.number(model.remainder(power(GREAT), 7))),
            ("g * g", power(model.number(2 ** 101))),
            ("(2^g + 1) * (2^g - 1) - 2^(g + g)", model.number(-1)),
            ("tower(5) - 2^65536", ()),
            ("2^tower(38) - tower(39)", ()),
        ]:
            self.assertEqual(value_of(read_formula(text), names), expected, text)

    def test_towers(self):
        x = model.number(1)
        for storeys in range(40):
            self.assertEqual(value(f"tower({storeys})"), x)
            self.assertEqual(value("tower(n)", n=storeys), x)
            x = model.power(x)
        self.assertEqual(MAX_TOWER, 40)
        self.fails(TooLarge, "tower(40)")
        for text in ("-1", "-2", "41", "42", "64", "2^100", "-(2^100)", "2^2^2^100", "tower(39)", "-tower(39)"):
            self.fails(NotAllowed, f"tower({text})")

    def test_too_many_products_of_terms(self):
        twenty = model.number(sum(4 ** place for place in range(20)))
        more = model.number(sum(4 ** place for place in range(21)))
        expected = model.times(twenty, twenty)
        self.assertEqual(value_of(read_formula("x * y"), {"x": twenty, "y": twenty}), expected)
        self.fails(TooLarge, "x * y", {"x": twenty, "y": more})

    def test_results_just_allowed_and_just_not(self):
        names = {"x": model.of_size(299), "y": model.of_size(300)}
        self.assertEqual(value_of(read_formula("x + 1"), names), names["x"] + ((1, ()),))
        self.assertEqual(value_of(read_formula("2^x"), names), model.power(names["x"]))
        self.assertEqual(value_of(read_formula("-y"), names), model.opposite(names["y"]))
        for text in ("y + 1", "y - 1", "2^y", "1 << y", "len(2^x << x)", "y * 3", "0 * (y + 1)", "(y + 1) - 1"):
            self.fails(TooLarge, text, names)
        below = model.of_size(297) + ((1, model.number(1)),)
        self.fails(TooLarge, "len(z)", {"z": model.power(below)})
        self.fails(TooLarge, "z >> 1", {"z": model.power(model.of_size(299))})

    def test_long_rows(self):
        self.same("+".join("a" * 500), 1500, a=3)
        self.same("-".join("a" * 500), -498 * 3, a=3)
        self.same("a" + "*a" * 499, 1, a=-1)
        self.same("a" + "<<a" * 300, 2 ** 301 >> 1, a=1)

    def test_values_of_shown_texts(self):
        rng = random.Random(113)
        rows = [model.number(own) for own in range(-40, 41)] + [GREAT, model.raised(GREAT, 9)]
        rows += [model.number(own * turn) for own in (10 ** 18 - 1, 10 ** 18, 10 ** 18 + 1) for turn in (1, -1)]
        rows += [model.random_number(rng, 7) for _ in range(300)]
        rows += [model.raised((), storeys) for storeys in range(21)]
        rows += [((-1, model.raised(GREAT, 3)), (1, GREAT), (-1, ())), ((1, model.raised(GREAT, 3)), (-1, GREAT))]
        for x in rows:
            try:
                text = shown_text(x)
            except TooLarge:
                continue
            self.assertEqual(value_of(read_formula(text), {}), x)

    def test_dict_of_values_stays(self):
        names = {"a": GREAT, "b": model.number(5)}
        kept = dict(names)
        value_of(read_formula("a + 2^b * rem(a, b) - min(a, b)"), names)
        self.fails(Missing, "a + x", names)
        self.assertEqual(names, kept)
        tree = read_formula("a + b")
        first = value_of(tree, names)
        names["a"] = ()
        self.assertEqual(value_of(tree, names), model.number(5))
        self.assertEqual(first, model.plus(GREAT, model.number(5)))


if __name__ == "__main__":
    unittest.main()
