"""Part 8: scripts and their answers."""

import random
import unittest

import grammar
import groups
import model
import reckon
from paper import NAMES, Paper, random_text, text_for
from sandreckoner.desk import MAX_LINES, MAX_SCRIPT, MAX_UNDO, run_script
from sandreckoner.errors import NotAllowed
from sandreckoner.evaluate import value_of
from sandreckoner.plain import plain_text, shown_text
from sandreckoner.programs import run_program

# A value that is allowed, with a text of more than 1000 characters.
LONG = " + ".join(f"tower({storeys})" for storeys in range(39, 31, -1))
WORDS = {"NotAllowed": "bad", "BadForm": "form", "Ring": "ring", "TooLarge": "large", "Missing": "missing"}
ORDERS = {-1: "less", 0: "same", 1: "greater"}


def lines(*rows):
    return run_script("\n".join(rows))


class DeskCase(unittest.TestCase):
    def follow(self, *rows):
        """Runs the lines of pairs (line, answer)."""
        found = lines(*[line for line, _ in rows])
        self.assertIs(type(found), list)
        for (line, answer), own in zip(rows, found):
            self.assertEqual(own, answer, line)
        self.assertEqual(len(found), len(rows))


class ScriptsTest(DeskCase):
    def test_the_bounds(self):
        self.assertEqual((MAX_SCRIPT, MAX_LINES, MAX_UNDO), (3000, 40, 8))

    def test_the_empty_script(self):
        self.assertEqual(run_script(""), [""])
        self.assertEqual(run_script("\n"), ["", ""])
        self.assertEqual(run_script("\nimage\n"), ["", "-", ""])

    def test_40_and_41_lines(self):
        self.assertEqual(run_script("\n" * 39), [""] * 40)
        self.assertEqual(lines(*["undo"] * 40), ["none"] * 40)
        for script in ("\n" * 40, "\n".join(["undo"] * 41), "undo\n" * 40, "\n" * 100):
            with self.assertRaises(NotAllowed):
                run_script(script)

    def test_3000_and_3001_characters(self):
        for many in (3000, 2999):
            self.assertEqual(run_script("x" * many), ["bad"])
            self.assertEqual(run_script("undo\n" + "x" * (many - 5)), ["none", "bad"])
            self.assertEqual(run_script("x" * (many - 5) + "\nundo"), ["bad", "none"])
        for script in ("x" * 3001, "undo\n" + "x" * 2996, " " * 3001, "run" + " " * 2998, "x" * 100000):
            with self.assertRaises(NotAllowed):
                run_script(script)
        text = "1 + " * 200 + "1"
        self.assertEqual(lines(*["value " + text] * 3), ["201"] * 3)
        # As many lines and as many characters as there may be.
        both = "\n".join(["x" * 74] * 39 + ["x" * 75])
        self.assertEqual(run_script(both), ["bad"] * 40)
        with self.assertRaises(NotAllowed):
            run_script(both + "x")

    def test_two_scripts_do_not_touch_each_other(self):
        self.assertEqual(lines("set a = 1", "show a"), ["ok", "1"])
        self.assertEqual(lines("show a", "undo", "redo", "image", "renewed"), ["missing", "none", "none", "-", "-"])

    def test_spaces_within_a_script(self):
        self.assertEqual(run_script(" "), ["bad"])
        self.assertEqual(run_script("set a = 1 \nshow a\n\n show a"), ["ok", "1", "", "bad"])


class AnswersTest(DeskCase):
    def test_set_and_clear(self):
        self.follow(
            ("set a = 3", "ok"), ("show a", "3"), ("set b = a * 2", "ok"), ("show b", "6"), ("clear a", "ok"),
            ("show b", "missing"), ("show a", "missing"), ("clear a", "missing"), ("form b", "a * 2"),
            ("set b = a a", "form"), ("set b = b", "ring"), ("set a = b", "ring"), ("set A = 1", "bad"),
            ("set if = 1", "bad"), ("set a = ", "bad"), ("set a =  ", "form"), ("set a = b = 1", "form"),
            ("set a = 1;", "form"), ("image", "b=a * 2;"),
        )

    def test_show_and_value(self):
        self.follow(
            ("set a = 2^100", "ok"), ("show a", "2^100"), ("value a - 1", "2^100 - 2^0"), ("value 2 + 2", "4"),
            ("set b = -2^a", "ok"), ("show b", "-2^(2^100)"), ("value -(7)", "-7"), ("value x", "missing"),
            ("value 1 +", "form"), ("value a = 1", "form"), ("value  5", "5"), ("value 5 ", "5"), ("value ", "bad"),
            ("value  ", "form"), ("value rem(5, 0)", "refused"), ("value 2^-1", "range"), ("value tower(40)", "large"),
            ("value low(0)", "missing"), ("value 1 >> -1", "refused"), ("show c", "missing"), ("show", "bad"),
        )

    def test_every_word_of_an_error(self):
        self.follow(
            ("set r = rem(1, 0)", "ok"), ("set d = 1 << -1", "ok"), ("set l = tower(40)", "ok"),
            ("set m = none", "ok"), ("show r", "refused"), ("show d", "range"), ("show l", "large"),
            ("show m", "missing"), ("value r + d", "refused"), ("value d + r", "range"), ("value l * m", "large"),
            ("value m - l", "missing"), ("cmp r ; d", "refused"), ("cmp 1 ; d", "range"), ("cmp l ; r", "large"),
            ("cmp m ; l", "missing"), ("form r", "rem(1, 0)"), ("form x", "missing"), ("set m = m", "ring"),
            ("set m = (", "form"), ("clear x", "missing"), ("show x", "missing"), ("set x = r + m", "ok"),
            ("show x", "refused"), ("set x = m + r", "ok"), ("show x", "missing"), ("set none = 1", "ok"),
            ("show x", "refused"), ("show m", "1"),
        )

    def test_the_text_is_too_long(self):
        self.follow(
            (f"set a = {LONG}", "ok"), ("show a", "large"), ("value a", "large"), ("value a - a", "0"),
            ("cmp a ; a + 0", "same"), ("cmp a ; -a", "greater"), ("form a", LONG), (f"run show {LONG};", "; large 1"),
            (f"run show 7; show {LONG};", "7 ; large 2"), ("renewed", "a"),
        )

    def test_form(self):
        self.follow(
            ("set a = ((1))-(2*(3))", "ok"), ("form a", "1 - 2 * 3"), ("form b", "missing"), ("form A", "bad"),
            ("set b = min( a,2^(a))", "ok"), ("form b", "min(a, 2^a)"), ("form", "bad"),
        )

    def test_cmp(self):
        self.follow(
            ("set a = 2^2^100", "ok"), ("cmp a ; a + 1", "less"), ("cmp a ; a", "same"), ("cmp a ; a - 1", "greater"),
            ("cmp 1 ; 2", "less"), ("cmp 2 + 2 ; 4", "same"), ("cmp -1 ; -2", "greater"), ("cmp a ; -a", "greater"),
            ("cmp 1 ; 2 ; 3", "form"), ("cmp 1 ; x", "missing"), ("cmp x ; 1", "missing"), ("cmp 1 ;", "bad"),
            ("cmp 1; 2", "bad"), ("cmp ( ; 2", "form"), ("cmp 2 ; (", "form"), ("cmp   ; 2", "form"),
        )

    def test_cmp_reads_and_calculates_the_first_one_first(self):
        self.follow(
            ("cmp ( ; x", "form"), ("cmp x ; (", "missing"), ("cmp 2^-1 ; (", "range"), ("cmp rem(1, 0) ; x", "refused"),
            ("cmp x ; rem(1, 0)", "missing"), ("cmp tower(40) ; )", "large"), ("cmp 1 ; )", "form"),
        )

    def test_unit(self):
        self.follow(
            ("unit .", "yes"), ("unit a", "no"), ("unit aA", "yes"), ("unit baBabABAA", "yes"),
            ("unit baBabABA", "no"), ("unit c", "form"), ("unit abABB", "no"), ("unit ..", "form"), ("unit  ", "form"),
            ("unit a a", "form"), ("unit a ", "form"), ("unit " + "aA" * 20, "yes"), ("unit " + "aA" * 20 + "a", "form"),
            ("unit", "bad"), ("unit ", "bad"), ("unit a.", "form"), ("unit ab AB", "form"),
        )

    def test_high(self):
        self.follow(
            ("high .", "yes"), ("high a", "no"), ("high dD", "yes"), ("high abABB", "yes"), ("high daDAA", "yes"),
            ("high adADD", "no"), ("high ab", "no"), ("high cA", "no"), ("high e", "form"), ("high ..", "form"),
            ("high " + "dD" * 20, "yes"), ("high " + "dD" * 20 + "d", "form"), ("high", "bad"), ("high ", "bad"),
            ("high a b", "form"), ("high acAC", "no"), ("high ddaDDAAAA", "yes"), ("high  ", "form"),
        )

    def test_words_of_both_groups(self):
        rng = random.Random(1)
        for command, letters, relators in (("unit", "ab", groups.BAUM_RELATORS), ("high", "abcd", groups.HIGMAN_RELATORS)):
            words = [groups.grown(rng, "", relators, letters) for _ in range(30)]
            self.assertEqual(lines(*[f"{command} {word}" for word in words]), ["yes"] * 30)
            others = [groups.grown(rng, rng.choice(letters), relators, letters) for _ in range(30)]
            self.assertEqual(lines(*[f"{command} {word}" for word in others]), ["no"] * 30)

    def test_run(self):
        self.follow(
            ("run", "; ok 0"), ("run ", "; ok 0"), ("run  ", "; ok 0"), ("run show 1;", "1 ; ok 1"),
            ("run a = 1; turn 3 { a = 2^a; show a; }", "2 4 16 ; ok 11"), ("run (", "; form 0"), ("run show 1", "; form 0"),
            ("run show 1; show x;", "1 ; missing 2"), ("run show rem(1, 0);", "; refused 1"),
            ("run show 2^-1;", "; range 1"), ("run show tower(40);", "; large 1"), ("run turn -1 { show 1; }", "; refused 1"),
            ("run a = 0; turn 5000 { a = a + 1; }", "; steps 2000"), ("run show 2^100 + 1;", "2^100 + 2^0 ; ok 1"),
            ("run show 0; show -1;", "0 -1 ; ok 2"), ("runs", "bad"),
        )

    def test_a_program_has_names_of_its_own(self):
        self.follow(
            ("set a = 5", "ok"), ("run show a;", "; missing 1"), ("run a = 7; show a;", "7 ; ok 2"), ("show a", "5"),
            ("run b = 7;", "; ok 1"), ("show b", "missing"),
        )

    def test_image_and_renewed(self):
        self.follow(
            ("image", "-"), ("renewed", "-"), ("set b = a+1", "ok"), ("renewed", "b"), ("set a = 2", "ok"),
            ("renewed", "a b"), ("image", "a=2;b=a + 1;"), ("set a = (2)", "ok"), ("renewed", "-"), ("set a = x", "ok"),
            ("renewed", "a b"), ("set a = b", "ring"), ("renewed", "a b"), ("value 1", "1"), ("clear b", "ok"),
            ("renewed", "-"), ("clear a", "ok"), ("image", "-"), ("renewed", "-"), ("image ", "bad"), ("renewed a", "bad"),
        )

    def test_more_than_twelve_cells(self):
        rows = [(f"set {name} = 1", "ok") for name in "abcdefghijkl"]
        self.follow(*rows, ("set m = 1", "large"), ("set m = m", "ring"), ("set m = (", "form"), ("set M = 1", "bad"),
                    ("clear d", "ok"), ("set m = 1", "ok"), ("set d = 1", "large"), ("undo", "ok"), ("set d = 1", "ok"))

    def test_bad_is_ahead_of_form(self):
        self.follow(
            ("set 1 = (", "bad"), ("set A = )", "bad"), ("set a=(", "bad"), ("cmp ( )", "bad"), ("cmp ( ; ", "bad"),
            ("value", "bad"), ("VALUE (", "bad"), ("show (", "bad"), ("clear (", "bad"), ("undo (", "bad"), (" value 1", "bad"),
            ("Set a = 1", "bad"), ("sets a = 1", "bad"), ("image a", "bad"), ("", ""), (" ", "bad"),
        )


class UndoTest(DeskCase):
    def test_nothing_to_take_back(self):
        self.follow(("undo", "none"), ("redo", "none"), ("set a = (", "form"), ("clear a", "missing"), ("undo", "none"),
                    ("value 1", "1"), ("undo", "none"), ("redo", "none"))

    def test_set_and_clear_are_taken_back_and_made_again(self):
        self.follow(
            ("set a = 1", "ok"), ("set b = a + 1", "ok"), ("set a = 5", "ok"), ("clear b", "ok"), ("image", "a=5;"),
            ("undo", "ok"), ("image", "a=5;b=a + 1;"), ("show b", "6"), ("undo", "ok"), ("image", "a=1;b=a + 1;"),
            ("show b", "2"), ("undo", "ok"), ("image", "a=1;"), ("undo", "ok"), ("image", "-"), ("undo", "none"),
            ("redo", "ok"), ("image", "a=1;"), ("redo", "ok"), ("show b", "2"), ("redo", "ok"), ("show b", "6"),
            ("redo", "ok"), ("image", "a=5;"), ("redo", "none"), ("undo", "ok"), ("image", "a=5;b=a + 1;"),
        )

    def test_eight_and_nine_changes(self):
        for many in (7, 8, 9, 12):
            kept = min(many, 8)
            rows = [(f"set a = {n}", "ok") for n in range(many)]
            rows += [("undo", "ok")] * kept + [("undo", "none"), ("image", f"a={many - 9};" if many > 8 else "-")]
            rows += [("redo", "ok")] * kept + [("redo", "none"), ("show a", str(many - 1))]
            self.follow(*rows[:40])

    def test_what_is_made_again_can_be_taken_back_again(self):
        rows = [(f"set a = {n}", "ok") for n in range(10)]
        rows += [("undo", "ok")] * 8 + [("undo", "none"), ("show a", "1")] + [("redo", "ok")] * 3 + [("show a", "4")]
        rows += [("undo", "ok")] * 2 + [("show a", "2")] + [("redo", "ok")] * 7 + [("redo", "none"), ("show a", "9")]
        self.follow(*rows)

    def test_a_change_behind_an_undo(self):
        self.follow(
            ("set a = 1", "ok"), ("set a = 2", "ok"), ("undo", "ok"), ("set b = 7", "ok"), ("redo", "none"),
            ("image", "a=1;b=7;"), ("undo", "ok"), ("image", "a=1;"), ("redo", "ok"), ("image", "a=1;b=7;"), ("undo", "ok"),
            ("clear a", "ok"), ("redo", "none"), ("undo", "ok"), ("undo", "ok"), ("undo", "none"), ("image", "-"),
        )

    def test_a_refused_change_behind_an_undo(self):
        self.follow(
            ("set a = 1", "ok"), ("undo", "ok"), ("set a = a", "ring"), ("set a = (", "form"), ("clear a", "missing"),
            ("set A = 1", "bad"), ("value 5", "5"), ("", ""), ("redo", "ok"), ("image", "a=1;"),
        )

    def test_a_set_that_changes_nothing(self):
        self.follow(
            ("set a = 1", "ok"), ("set a = (1)", "ok"), ("renewed", "-"), ("undo", "ok"), ("image", "a=1;"),
            ("undo", "ok"), ("image", "-"), ("undo", "none"), ("redo", "ok"), ("set a = 1", "ok"), ("redo", "none"),
        )
        rows = [("set b = 1", "ok")] + [("set a = 1", "ok")] * 9 + [("undo", "ok")] * 8
        self.follow(*rows, ("undo", "none"), ("image", "a=1;b=1;"))

    def test_renewed_behind_undo_and_redo(self):
        self.follow(
            ("set b = a", "ok"), ("set c = 1", "ok"), ("set a = 1", "ok"), ("renewed", "a b"), ("undo", "ok"),
            ("renewed", "b c"), ("redo", "ok"), ("renewed", "a b c"), ("redo", "none"), ("renewed", "a b c"),
            ("set a = 1", "ok"), ("renewed", "-"), ("undo", "ok"), ("renewed", "a b c"), ("set a = (", "form"),
            ("renewed", "a b c"), ("undo", "ok"), ("undo", "ok"), ("undo", "ok"), ("renewed", "-"), ("undo", "none"),
            ("renewed", "-"), ("redo", "ok"), ("renewed", "b"),
        )

    def test_an_undo_that_was_answered_with_none_leaves_renewed(self):
        self.follow(("undo", "none"), ("renewed", "-"), ("set b = 1", "ok"), ("redo", "none"), ("renewed", "b"),
                    ("set b = 2", "ok"), ("set d = b", "ok"), ("redo", "none"), ("renewed", "d"))

    def test_a_formula_whose_plain_text_is_too_long_to_be_read(self):
        whole = "+".join(["1"] * 450)
        plain = " + ".join(["1"] * 450)
        self.follow((f"set a = {whole}", "ok"), ("show a", "450"), ("form a", plain), ("set b = a+1", "ok"), ("undo", "ok"),
                    ("image", f"a={plain};"), ("undo", "ok"), ("image", "-"), ("redo", "ok"), ("image", f"a={plain};"))


class AgainstPaperTest(DeskCase):
    """Random scripts, against copies of a plain dict of trees."""

    def told(self, outcome):
        if isinstance(outcome, str):
            return reckon.WORDS[outcome]
        return shown_text(outcome)

    def change(self, rng, desk):
        """A random change and its answer."""
        name = rng.choice(NAMES)
        text = text_for(rng, name)
        before = dict(desk.paper.trees)
        if rng.randrange(10):
            line, error = f"set {name} = {text}", desk.paper.put(name, text)
        else:
            line, error = f"clear {name}", desk.paper.drop(name)
        if error is not None:
            return line, WORDS[error]
        desk.done = (desk.done + [before])[-8:]
        desk.undone = []
        return line, "ok"

    def question(self, rng, desk):
        """A random question and its answer."""
        names = rng.choice((NAMES, sorted(desk.paper.trees)))
        name, text, other = rng.choice(names or NAMES), random_text(rng, names), random_text(rng, names)
        first, second = [desk.paper.outcome(grammar.formula(part), value_of) for part in (text, other)]
        kind = rng.randrange(6)
        if kind == 0:
            return "renewed", " ".join(desk.paper.renewed) or "-"
        if kind == 1:
            return "image", desk.paper.image(plain_text) or "-"
        if kind == 2:
            return f"show {name}", self.told(desk.paper.outcome(("name", name), value_of))
        if kind == 3:
            missing = name not in desk.paper.trees
            return f"form {name}", "missing" if missing else plain_text(desk.paper.trees[name])
        if kind == 4:
            return f"value {text}", self.told(first)
        failed = [self.told(part) for part in (first, second) if isinstance(part, str)]
        return f"cmp {text} ; {other}", failed[0] if failed else ORDERS[model.order(first, second)]

    def move(self, desk, source, target):
        if not source:
            return "none"
        target.append(dict(desk.paper.trees))
        desk.paper.trees = source.pop()
        desk.paper.renewed = sorted(desk.paper.trees)
        return "ok"

    def answer(self, rng, desk):
        """A random line and its answer."""
        kind = rng.randrange(12)
        if kind < 6:
            return self.change(rng, desk)
        if kind < 7:
            return "undo", self.move(desk, desk.done, desk.undone)
        if kind < 8:
            return "redo", self.move(desk, desk.undone, desk.done)
        return self.question(rng, desk)

    def test_random_scripts(self):
        rng = random.Random(2)
        for _ in range(150):
            desk = PaperDesk()
            rows, left = [], 3000
            for _ in range(40):
                row = self.answer(rng, desk)
                left -= len(row[0]) + 1
                if left < 0:
                    break
                rows.append(row)
            self.follow(*rows)


class PaperDesk:
    def __init__(self):
        self.paper, self.done, self.undone = Paper(), [], []


if __name__ == "__main__":
    unittest.main()
