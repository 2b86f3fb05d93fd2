"""[3.6], [3.7] and the heading sandreckoner/programs.py."""

import random
import time
import unittest

import grammar
import model
import reckon
from sandreckoner.plain import shown_text
from sandreckoner.programs import run_program

NO_PROGRAM = ([], "form", 0)


def text_of(value):
    return shown_text(model.number(value))


class ProgramsCase(unittest.TestCase):
    def check(self, text, shown, word, steps):
        self.assertEqual(run_program(text), (shown, word, steps), text)

    def refuse(self, text):
        self.assertEqual(run_program(text), NO_PROGRAM, text)

    def agree(self, text):
        """What the package and the model say of a text is the same."""
        statements = grammar.program(text)
        if statements is None:
            self.refuse(text)
            return False
        try:
            expected = reckon.result(statements, text_of)
        except reckon.Skip:
            self.assertNotEqual(run_program(text)[1], "form", text)
            return True
        self.assertEqual(run_program(text), expected, text)
        return True


class StatementsTest(ProgramsCase):
    def test_nothing(self):
        for text in ("", " ", "      ", " " * 1000):
            self.check(text, [], "ok", 0)

    def test_assignments_and_shows(self):
        self.check("a = 1;", [], "ok", 1)
        self.check("show 1;", ["1"], "ok", 1)
        self.check("a = 5; show a; a = a * a; show a; show -a;", ["5", "25", "-25"], "ok", 5)
        self.check("a=b;", [], "missing", 1)
        self.check("b = 2; a = b; b = 3; show a; show b;", ["2", "3"], "ok", 5)
        self.check("a = 2^100; show 2^a + 1; show a;", ["2^(2^100) + 2^0", "2^100"], "ok", 3)
        self.check("show show;", [], "form", 0)
        self.check("abcd = 7; abc = 8; show abcd - abc;", ["-1"], "ok", 3)

    def test_turns(self):
        self.check("a = 0; turn 4 { a = a + 1; show a; }", ["1", "2", "3", "4"], "ok", 14)
        self.check("turn 0 { show 1; }", [], "ok", 1)
        self.check("turn 1 { show 1; }", ["1"], "ok", 3)
        self.check("turn 3 { }", [], "ok", 1)
        self.check("turn 2 { turn 3 { show 1; } }", ["1"] * 6, "ok", 17)
        self.check("turn 2 { turn 3 { } }", [], "ok", 5)
        self.check("n = 2; turn n { n = n + 1; } show n;", ["4"], "ok", 7)
        self.check("n = 3; turn n { turn n { show n; n = n - 1; } }", ["3", "2", "1"], "ok", 17)
        self.check("turn 2 { a = 5; } show a;", ["5"], "ok", 6)

    def test_choices(self):
        for mark, rows in [("<", [1, 0, 0]), ("<=", [1, 1, 0]), ("==", [0, 1, 0]), ("!=", [1, 0, 1])]:
            for left, holds in zip((1, 2, 3), rows):
                text = f"if {left} {mark} 2 {{ show 10; show 11; }}"
                self.check(text, ["10", "11"] if holds else [], "ok", 3 if holds else 1)
                text = f"if {left} {mark} 2 {{ show 10; show 11; }} else {{ show 12; }}"
                self.check(text, ["10", "11"] if holds else ["12"], "ok", 3 if holds else 2)
                self.check(f"if {left} {mark} 2 {{ }} else {{ show 1; }}", [] if holds else ["1"], "ok", 2 - holds)
                self.check(f"if {left} {mark} 2 {{ show 1; }} else {{ }} show 2;", ["1"] * holds + ["2"], "ok", 2 + holds)
                self.check(f"if {left} {mark} 2 {{ }} show 2;", ["2"], "ok", 2)
        self.check("if -5 < 0 - 4 { show 1; }", ["1"], "ok", 2)
        self.check("if 2^2^100 != 2^(2^100) { } else { show 1; }", ["1"], "ok", 2)
        self.check("if 2^2^100 - 1 < 2^2^100 { if 1 == 1 { show 1; } }", ["1"], "ok", 3)
        self.check("if 1 < 2 { if 2 < 1 { show 1; } else { show 2; } }", ["2"], "ok", 3)
        self.check("if 2 < 1 { if 2 < 1 { } } else { show 2; }", ["2"], "ok", 2)

    def test_names_belong_to_the_whole_program(self):
        self.check("if 1 == 1 { a = 3; } show a;", ["3"], "ok", 3)
        self.check("turn 1 { a = 3; } a = a + 1; show a;", ["4"], "ok", 5)
        self.check("if 1 == 2 { a = 3; } show a;", [], "missing", 2)
        self.check("turn 0 { a = 3; } show a;", [], "missing", 2)

    def test_no_name_is_kept_for_the_next_program(self):
        self.check("a = 3; show a;", ["3"], "ok", 2)
        self.check("show a;", [], "missing", 1)

    def test_lists_are_new_ones(self):
        first = run_program("show 1;")
        first[0].append("x")
        self.check("show 1;", ["1"], "ok", 1)
        first = run_program("a")
        first[0].append("x")
        self.refuse("a")

    def test_kinds_of_the_result(self):
        result = run_program("show 2^70;")
        self.assertEqual([type(part) for part in result], [list, str, int])
        self.assertEqual([type(part) for part in run_program("}")], [list, str, int])


class ErrorsTest(ProgramsCase):
    def test_each_word(self):
        for formula, word in [
            ("x", "missing"), ("low(0)", "missing"), ("1 >> -1", "refused"), ("rem(1, 0)", "refused"),
            ("bit(1, -1)", "refused"), ("tower(41)", "refused"), ("1 << -1", "range"), ("2^-1", "range"),
            ("tower(40)", "large"), ("768614336404564650", "large"),
        ]:
            self.check(f"a = {formula};", [], word, 1)
            self.check(f"show {formula};", [], word, 1)
            self.check(f"turn {formula} {{ show 1; }}", [], word, 1)
            self.check(f"turn {formula} {{ }}", [], word, 1)
            self.check(f"if {formula} < 1 {{ show 1; }}", [], word, 1)
            self.check(f"if 1 < {formula} {{ show 1; }} else {{ show 2; }}", [], word, 1)
            self.check(f"show 7; turn 2 {{ show 8; a = {formula}; }} show 9;", ["7", "8"], word, 5)
            self.check(f"if {formula} < y {{ }}", [], word, 1)
            self.check(f"if y < {formula} {{ }}", [], "missing", 1)
            self.check(f"if 1 == 1 {{ }} else {{ a = {formula}; }}", [], "ok", 1)
            self.check(f"a = 1; a = {formula}; show a;", [], word, 2)

    def test_left_sum_first(self):
        self.check("if 1 << -1 == 1 >> -1 { }", [], "range", 1)
        self.check("if 1 >> -1 == 1 << -1 { }", [], "refused", 1)

    def test_negative_numbers_of_turns(self):
        for formula in ("-1", "0 - 5", "-(2^100)", "-(2^2^2^100)", "-tower(39)"):
            self.check(f"turn {formula} {{ show 1; }}", [], "refused", 1)
            self.check(f"show 3; turn {formula} {{ }} show 4;", ["3"], "refused", 2)

    def test_texts_that_are_too_long_to_be_shown(self):
        high = "a = 2^32; turn 28 { a = 2^a; } b = 2^a; c = 2^b; d = 2^c; e = 2^d; f = 2^e; g = 2^f; h = 2^g;"
        total = high + "s = h + g + f + e + d + c + b;"
        shown, word, steps = run_program(total + "show s; show s + 2^2^33 + 2^2^32; show 1;")
        self.assertEqual(([len(text) for text in shown], word, steps), ([970, 1000, 1], "ok", 69))
        shown, word, steps = run_program(total + "show s; show s + 2^2^36 + 2^2^32; show 1;")
        self.assertEqual(([len(text) for text in shown], word, steps), ([970], "large", 68))
        self.check(total + "t = s + 2^2^36 + 2^2^32;", [], "ok", 67)
        self.check(high + "h = 2^h; show 1;", [], "large", 66)

    def test_an_error_ends_the_program_where_it_is(self):
        self.check("show 1; show 2; show x; show 3;", ["1", "2"], "missing", 3)
        self.check("turn 5 { turn 5 { show 1; show x; } }", ["1"], "missing", 6)


class StepsTest(ProgramsCase):
    def test_just_2000_steps(self):
        self.check("turn 999 { a = 1; } b = 1;", [], "ok", 2000)
        self.check("turn 1999 { if 1 == 1 { } }", [], "steps", 2000)
        self.check("a = 1; turn 999 { a = 2; }", [], "ok", 2000)
        self.check("a = 0; turn 999 { a = a + 1; } show a;", [], "steps", 2000)
        self.check("a = 0; turn 998 { a = a + 1; } show a;", ["998"], "ok", 1999)

    def test_the_step_that_would_be_2001(self):
        self.check("turn 999 { a = 1; } a = 1; a = 2;", [], "steps", 2000)
        self.check("turn 999 { a = 1; } a = 1; show x;", [], "steps", 2000)
        self.check("turn 999 { a = 1; } show x; show 1;", [], "missing", 2000)
        self.check("turn 999 { a = 1; } turn -1 { }", [], "refused", 2000)
        self.check("turn 999 { a = 1; } turn 1 { a = 1; }", [], "steps", 2000)
        self.check("turn 999 { a = 1; } turn 1 { }", [], "ok", 2000)
        self.check("turn 999 { a = 1; } turn 0 { a = 1; }", [], "ok", 2000)
        self.check("turn 999 { a = 1; } if 1 == 1 { show 1; }", [], "steps", 2000)
        self.check("turn 999 { a = 1; } if 1 == 1 { } else { show 1; }", [], "ok", 2000)
        self.check("turn 1000 { a = 1; }", [], "steps", 2000)

    def test_shown_until_the_steps_end(self):
        self.check("turn 5000 { show 1; }", ["1"] * 999, "steps", 2000)
        self.check("show 0; turn 5000 { show 1; }", ["0"] + ["1"] * 999, "steps", 2000)
        self.check("turn 5000 { show 1; show 2; }", ["1", "2"] * 666, "steps", 2000)

    def test_numbers_of_turns_that_no_run_can_end(self):
        for many in ("2000", "2001", "4000", "5000", "2^60", "10000000000", "2^100", "2^2^100", "tower(39)"):
            self.check(f"turn {many} {{ a = 1; }}", [], "steps", 2000)
            self.check(f"turn {many} {{ }}", [], "ok", 1)
            self.check(f"turn {many} {{ }} show 1;", ["1"], "ok", 2)
            self.check(f"turn {many} {{ show x; }}", [], "missing", 3)
            self.check(f"turn {many} {{ turn {many} {{ }} }}", [], "steps", 2000)
            self.check(f"turn {many} {{ if 1 == 2 {{ show 1; }} }}", [], "steps", 2000)
            self.check(f"turn {many} {{ turn 0 {{ show 1; }} }}", [], "steps", 2000)

    def test_turns_within_turns(self):
        for outer in range(0, 70, 7):
            for inner in range(0, 70, 7):
                steps = 1 + outer * (2 + 2 * inner)
                text = f"turn {outer} {{ turn {inner} {{ a = 1; }} }}"
                self.check(text, [], "ok" if steps <= 2000 else "steps", min(steps, 2000))

    def test_steps_of_statements_without_turns(self):
        text = "a=1;" * 250
        self.check(text, [], "ok", 250)
        self.check("if 1==1{" * 30 + "}" * 30, [], "ok", 30)


class FormTest(ProgramsCase):
    SAMPLES = [
        "a = 1; show a;",
        "turn 3 { a = 2^a; show a; }",
        "if a < 1 { show 1; } else { turn 2 { } }",
        "a=2;if a*2<=3+1{show -a;}show a<<1;",
        "x = min(1, 2); turn x { if x != 1 { } else { x = x - 1; } } show x;",
    ]
    TOKENS = [
        "a", "1", "+", "-", "<<", "(", ")", ",", "2^", "len", "if", "else", "turn", "show", "=", ";", "{", "}", "<",
        "<=", "==", "!=", "abcde", "A", "01",
    ]

    def test_texts_that_are_no_programs(self):
        for text in [
            "a", "1", ";", "a;", "1;", "a = ;", "a = 1", "= 1;", "a == 1;", "a = = 1;", "a = b = 1;", "show;", "show 1",
            "show 1,2;", "show a = 1;", "turn { }", "turn 1 ;", "turn 1 {", "turn 1 }", "turn 1 { } ;", "{ }", "{}",
            "{ a = 1; }", "}", "a = 1; }", "if { }", "if 1 { }", "if 1 < { }", "if < 1 { }", "if 1 < 2 < 3 { }",
            "if 1 = 1 { }", "if 1 == 1", "if 1 == 1;", "if 1 == 1 { } else", "if 1 == 1 { } else ;",
            "if 1 == 1 { } else show 1;", "if 1 == 1 { } else if 1 == 1 { }", "if 1 == 1 { } else { } else { }",
            "else { }", "a = 1; else { }", "turn 1 { } else { }", "if 1 > 2 { }", "if 1 >= 2 { }", "if (1 < 2) { }",
            "if 1 >> 2 { }", "if = 1;", "turn = 1;", "show = 1;", "else = 1;", "len = 1;", "tower = 1;", "abcde = 1;",
            "A = 1;", "a1 = 1;", "1 = 1;", "(a) = 1;", "-a = 1;", "a + 1 = 2;", "a = 1;; b = 1;", "show 01;",
            "a = 1 b = 2;", "a = {1};", "show 1 2;", "turn 1 { show 1 }", "turn 1 { a = 1; } }", "turn 1 { { } }",
            "a = 1.5;", "a = \"x\";", "show #1;", "a := 1;", "a = 1: b = 1;", "if 1 ! = 1 { }", "if 1 < = 1 { }",
            "if 1 = = 1 { }", "If 1 == 1 { }", "SHOW 1;", "a = 1;\tb = 1;", "shows 1;", "showa;", "turnx {}",
        ]:
            self.refuse(text)
            self.refuse("show 1; " + text)
            self.refuse("turn 2 { show 1; " + text + " }")
            self.assertIsNone(grammar.program(text), text)

    def test_one_token_spoilt(self):
        many = 0
        for sample in self.SAMPLES:
            parts = grammar.cut(sample)
            for at in range(len(parts) + 1):
                rows = [parts[at + 1:], parts[at:at + 1] * 2 + parts[at + 1:], parts[at:at + 2][::-1] + parts[at + 2:]]
                rows += [[token] + parts[at + more:] for token in self.TOKENS for more in (0, 1)]
                for row in rows:
                    many += self.agree(" ".join(parts[:at] + row))
        self.assertGreater(many, 200)

    def test_one_character_spoilt(self):
        for sample in self.SAMPLES:
            for at in range(len(sample) + 1):
                self.agree(sample[:at] + sample[at + 1:])
                for sign in "a1 +-<>=!;{}^":
                    self.agree(sample[:at] + sign + sample[at:])
                    self.agree(sample[:at] + sign + sample[at + 1:])

    def test_spaces(self):
        rng = random.Random(121)
        for sample in self.SAMPLES:
            parts = grammar.cut(sample)
            expected = run_program(sample)
            for _ in range(60):
                self.assertEqual(run_program(grammar.spaced(rng, parts)), expected)
        self.check("show1;", ["1"], "ok", 1)
        self.check("turn2{show3;}", ["3", "3"], "ok", 5)
        self.check("show-1;show(2);show--3;", ["-1", "2", "3"], "ok", 3)
        self.check("if1==1{show2^3;}else{}", ["8"], "ok", 2)

    def test_the_longest_mark_is_read(self):
        self.check("a=1;if a<-a{show 1;}else{show 2;}", ["2"], "ok", 3)
        self.check("a=-1;if a==-1{show 1;}", ["1"], "ok", 3)
        self.check("if 1<=-1{}else{show 5;}", ["5"], "ok", 2)
        self.check("if 1<<2==4{show 1;}", ["1"], "ok", 2)
        self.check("if 1!=-1{show 1;}", ["1"], "ok", 2)
        for text in ("a==-1;", "if 1<<2{}", "if 1<==2{}", "if 1<<=2{}", "if 1===1{}", "if 1!==1{}", "a=!1;"):
            self.refuse(text)

    def test_length(self):
        text = "a=1;" * 250
        self.assertEqual(len(text), 1000)
        self.check(text, [], "ok", 250)
        self.refuse(text + " ")
        self.refuse(" " + text)
        self.check(" " * 992 + "show 1; ", ["1"], "ok", 1)
        self.refuse(" " * 993 + "show 1; ")
        self.refuse(" " * 1001)


class LevelsTest(ProgramsCase):
    def test_blocks(self):
        for opening in ("turn 1 {", "if 1 == 1 {", "if 1 == 2 { } else {"):
            shown = ["7"]
            result = run_program(opening * 30 + "show 7;" + "}" * 30)
            self.assertEqual((result[0], result[1]), (shown, "ok"))
            self.refuse(opening * 31 + "show 7;" + "}" * 31)
            self.refuse(opening * 31 + "}" * 31)
            self.assertEqual(run_program(opening * 30 + "}" * 30)[1], "ok")

    def test_formulas_in_blocks(self):
        for many in (0, 1, 10, 29, 30):
            for opening, closing in [("(", ")"), ("-", ""), ("len(", ")"), ("2^", "")]:
                for statement in ("show {};", "turn {} {{ }}", "if {} < 1 {{ }}", "if 1 < {} {{ }}", "a = {};"):
                    blocks = "turn 0 {" * many
                    for levels in (29 - many, 30 - many, 31 - many):
                        if levels < 0:
                            continue
                        inner = statement.format(opening * levels + "0" + closing * levels)
                        text = blocks + inner + "}" * many
                        # The statement's own block is a level too, but not one of the sum in front of it.
                        wrong = levels + many > 30 or many == 30 and "{" in inner
                        self.assertEqual(run_program(text)[1] == "form", wrong)
                        self.agree(text)

    def test_blocks_beside_one_another(self):
        self.assertEqual(run_program(("if 1==1{" * 30 + "}" * 30) * 3)[1:], ("ok", 90))

    def test_random_levels(self):
        rng = random.Random(122)
        for _ in range(300):
            text = "-" * rng.randrange(6) + "a"
            levels = text.count("-")
            for _ in range(rng.randrange(20, 32) - levels):
                opening, closing = rng.choice([("(", ")"), ("2^", ""), ("abs(", ")")])
                if rng.randrange(2):
                    text = opening + text + closing
                    levels += 1
            text = f"show {text};"
            while levels < 32 and rng.randrange(12):
                text = rng.choice(["turn 0 {%s}", "if 1 == 1 {%s}", "if 1 == 1 {} else {%s show 1;}"]) % text
                levels += 1
            self.assertEqual(grammar.program(text) is None, levels > 30)
            self.agree(text)


class RandomTest(ProgramsCase):
    def sum(self, rng):
        text = grammar.spaced(rng, grammar.loose_parts(rng, self.tree(rng, rng.randrange(3)), more=0.05)).strip()
        return text

    def tree(self, rng, depth):
        if depth == 0:
            return rng.choice([("int", rng.randrange(6)), ("name", rng.choice("abc")), ("name", "a")])
        kind = rng.choice(["add", "add", "sub", "mul", "up", "down", "neg", "call"])
        if kind == "call":
            name = rng.choice(["rem", "bit", "len", "low", "abs", "min", "max"])
            return ("call", name, tuple(self.tree(rng, depth - 1) for _ in range(grammar.ARGUMENTS[name])))
        return (kind,) + tuple(self.tree(rng, depth - 1) for _ in range(1 if kind == "neg" else 2))

    def statement(self, rng, depth):
        kind = rng.randrange(7 if depth else 4)
        if kind < 2:
            return f"{rng.choice('abc')} = {self.sum(rng)};"
        if kind < 4:
            return f"show {self.sum(rng)};"
        if kind < 6:
            return f"turn {rng.choice((self.sum(rng), str(rng.randrange(6))))} {self.block(rng, depth - 1)}"
        mark = rng.choice(["<", "<=", "==", "!="])
        other = rng.choice(["", " else " + self.block(rng, depth - 1)])
        return f"if {self.sum(rng)} {mark} {self.sum(rng)} {self.block(rng, depth - 1)}{other}"

    def block(self, rng, depth):
        return "{ " + " ".join(self.statement(rng, depth) for _ in range(rng.randrange(4))) + " }"

    def test_random_programs(self):
        rng = random.Random(123)
        words = {}
        for _ in range(1500):
            text = "a = 3; b = 1; c = -2; " + " ".join(self.statement(rng, 3) for _ in range(rng.randrange(1, 6)))
            if len(text) <= 1000:
                self.assertTrue(self.agree(text), text)
                word = run_program(text)[1]
                words[word] = words.get(word, 0) + 1
        self.assertLessEqual({"ok", "missing", "refused", "range", "steps"}, set(words))

    def test_time(self):
        begin = time.perf_counter()
        run_program("turn 5000 { a = 2^2^100 - 1; b = a * a >> 5; show rem(b, 9999); turn 2^99 { } }")
        run_program("turn 2^99 { turn 2^99 { turn 2^99 { turn 2^99 { a = 1; } } } }")
        self.assertLess(time.perf_counter() - begin, 20)


if __name__ == "__main__":
    unittest.main()
