"""[8.2] what a line is."""

import unittest

from sandreckoner.lines import read_command

ALONE = ["renewed", "undo", "redo", "image"]
WITH_NAME = ["clear", "show", "form"]
WITH_TEXT = ["value", "unit", "high"]
COMMANDS = ALONE + WITH_NAME + WITH_TEXT + ["set", "cmp", "run"]
NO_NAMES = ["A", "abcde", "1", "a1", "if", "else", "turn", "show", "rem", "min", "tower", "a b", "a ", " a", " ", "a;", "."]


class ReadCommandTest(unittest.TestCase):
    def reads(self, line, *expected):
        found = read_command(line)
        self.assertEqual(found, expected, line)
        self.assertIs(type(found), tuple)

    def bad(self, *lines):
        for line in lines:
            with self.subTest(line):
                self.assertIsNone(read_command(line))

    def test_the_empty_line(self):
        self.reads("")
        self.bad(" ", "  ", "\t")

    def test_commands_alone(self):
        for word in ALONE:
            self.reads(word, word)
            self.bad(word + " ", word + " a", word + "  ", " " + word, word + ";", word + "a")

    def test_commands_with_a_name(self):
        for word in WITH_NAME:
            for name in ("a", "z", "xy", "xyz", "long", "ifs", "sho", "remo"):
                self.reads(f"{word} {name}", word, name)
            self.bad(*[f"{word} {name}" for name in NO_NAMES])
            self.bad(word, word + " ", word + "  ", word + "a", word + "  a", word + " a ", word + " a b", word + "\ta")

    def test_commands_with_a_text(self):
        for word in WITH_TEXT:
            for text in ("a", "1 + 1", ".", " ", "  a ", "= ; =", "A", "value", "((", "a ; b", "x = 1"):
                self.reads(f"{word} {text}", word, text)
            self.bad(word, word + " ", word + ".", " " + word + " a", word + "\ta")

    def test_set(self):
        for name in ("a", "xy", "long"):
            for text in ("1", " 1", "1 ", " ", "a + b", "b = c", " = ", "=", ";", "((", "1 ; 2", "= 1"):
                self.reads(f"set {name} = {text}", "set", name, text)
        self.bad(*[f"set {name} = 1" for name in NO_NAMES])
        self.bad(
            "set", "set ", "set a", "set a ", "set a=", "set a=1", "set a =1", "set a= 1", "set a =", "set a = ",
            "set = 1", "set  = 1", "set = = 1", "set  a = 1", "set a  = 1", "seta = 1", " set a = 1", "set a ; 1",
            "set a == 1", "set a b = 1", "set 1 = a = 1",
        )

    def test_set_at_the_first_sign(self):
        self.reads("set a = b = c = d", "set", "a", "b = c = d")
        self.reads("set a =  = 1", "set", "a", " = 1")
        self.reads("set a = = 1", "set", "a", "= 1")

    def test_cmp(self):
        for first in ("1", " 1", "a + b", "=", ";", "x = 1", "((", "  "):
            for second in ("1", "1 ", "((", ";", "; 1", " ; ", "2 ; 3", "x = 1", " "):
                self.reads(f"cmp {first} ; {second}", "cmp", first, second)
        self.bad(
            "cmp", "cmp ", "cmp 1", "cmp 1 ;", "cmp 1 ; ", "cmp 1; 2", "cmp 1 ;2", "cmp 1;2", "cmp ; 2", "cmp  ; 2",
            "cmp  ; ", "cmp ;", "cmp  ;  ", "cmp1 ; 2", " cmp 1 ; 2", "cmp 1 = 2", "cmp  ; 2 ; 3",
        )

    def test_cmp_at_the_first_sign(self):
        self.reads("cmp 1 ; 2 ; 3", "cmp", "1", "2 ; 3")
        self.reads("cmp 1 ;  ; 3", "cmp", "1", " ; 3")
        self.reads("cmp 1  ; 3", "cmp", "1 ", "3")
        self.reads("cmp  1 ; 3", "cmp", " 1", "3")

    def test_run(self):
        self.reads("run", "run", "")
        self.reads("run ", "run", "")
        self.reads("run  ", "run", " ")
        self.reads("run show 1;", "run", "show 1;")
        self.reads("run a = 1; show a; ", "run", "a = 1; show a; ")
        self.reads("run {", "run", "{")
        self.bad("run;", "runs", "run\t", " run", "rrun", "RUN")

    def test_other_words(self):
        for word in COMMANDS:
            for rest in ("", " a", " a = 1", " 1 ; 2", " ."):
                self.bad(word.upper() + rest, word.capitalize() + rest, word[:-1] + rest, word[1:] + rest)
                self.bad(word + "s" + rest, "x" + word + rest, word + word + rest, " " + word + rest)
                self.bad(word[:-1] + word[-1].upper() + rest)
        self.bad("a", "a = 1", ".", "0", "=", ";", "help", "quit", "#", "names", "print a", "load a=1;")


if __name__ == "__main__":
    unittest.main()
