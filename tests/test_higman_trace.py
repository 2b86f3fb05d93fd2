"""[6.4] to [6.8]: the factors that reducing a word of Higman's group hands over, and other orders."""

import itertools
import random
import string
import unittest

import model

from sandreckoner.errors import BadForm, Missing, NotAllowed
from sandreckoner.forms import of_int
from sandreckoner.higman import are_same, is_unit, length_of
from sandreckoner.higman_trace import check_trace, trace

import groups
from groups import grown, inverse, random_word

NO_WORDS = ["a" * 41, "abcd" * 10 + "a", "e", "E", "a c", " ", "1", "."]
NO_WORDS += [letter for letter in string.ascii_letters if letter not in "abcdABCD"]
ONE, TWO = of_int(1), of_int(2)


def some_words(rng, many):
    for _ in range(many):
        letters = rng.choice(("abcd", "abcd", "abc", "cda", "ac", "dab", "bd", "acd"))
        start = random_word(rng, letters, rng.choice((0, 1, 3, 8, 25)))
        yield rng.choice((start, grown(rng, start, groups.HIGMAN_RELATORS, "abcd")))


def as_integers(powers):
    return [(letter, model.value_of(power)) for letter, power in powers]


class TraceTest(unittest.TestCase):
    def test_single_words(self):
        for word, steps, left, end in (
            ("", [], 0, []),
            ("a", [], 0, [("a", 1)]),
            ("C", [], 0, [("c", -1)]),
            ("aA", [], 0, []),
            ("dD", [], 0, []),
            ("b", [], 1, []),
            ("d", [], 1, []),
            ("ca", [], 0, [("c", 1), ("a", 1)]),
            ("aaaCCac", [], 0, [("a", 3), ("c", -2), ("a", 1), ("c", 1)]),
            ("bd", [], 2, []),
            ("bdb", [], 3, []),
            # b c B is c c, and a b b A is b ** 4.
            ("bcB", [], 0, [("c", 2)]),
            ("abbABBBBa", [], 0, [("a", 1)]),
            # A b A: half of b is no power of b.
            ("AbA", [], 1, []),
            ("AbbaB", [], 0, []),
            # Half of it two times is one, and half of b less two of them is no power of b either.
            ("AbaAbaB", [], 0, []),
            ("AbaaBA", [], 1, []),
            ("Abacbc", [], 1, []),
            ("BBcbb", [], 1, []),
            # b b a B B takes z to 2 z - 2, and b b a B takes it to 2 z.
            ("bbaBB", [], 1, []),
            ("bbaB", [], 0, [("a", 1)]),
            # d c D is no power of c, and stays; C is at the place 1 then.
            ("dcDC", [(1, [("c", 1)]), (1, [("c", -1)])], 1, []),
            ("dad", [(1, [("a", 1)])], 1, []),
            ("daD", [(1, [("a", 1)])], 0, [("a", 2)]),
            ("dbBD", [(1, [])], 0, []),
            ("ad", [(0, [("a", 1)])], 1, []),
            ("da", [(1, [("a", 1)])], 1, []),
            ("dacD", [(1, [("a", 1), ("c", 1)])], 1, []),
            ("dDa", [(0, [])], 0, [("a", 1)]),
            ("adD", [(0, [("a", 1)])], 0, [("a", 1)]),
            # c d C is d d, which takes a to a ** 4. That and c at the place 0 are handed over ahead of C.
            (
                "cdCacDC",
                [(0, [("c", 1)]), (1, [("c", -1), ("a", 1), ("c", 1)]), (0, [("a", 4), ("c", 1)])], 0, [("a", 4)],
            ),
            ("daDbdAD", [(1, [("a", 1)]), (0, [("a", 2)]), (2, [("a", -1)]), (1, [("a", -2)])], 1, []),
            ("dabd", [], 3, []),
            ("bdDb", [(1, [])], 1, []),
            ("bdDB", [(1, [])], 0, []),
            ("dbBb", [], 2, []),
        ):
            with self.subTest(word):
                found, length, powers = trace(word)
                told = [(place, as_integers(given)) for place, given in found]
                self.assertEqual((told, length, as_integers(powers)), (steps, left, end))

    def test_the_kinds_of_values(self):
        self.assertEqual(trace("dacD"), ([(1, [("a", ONE), ("c", ONE)])], 1, []))
        self.assertEqual(trace("ddaDD"), ([(1, [("a", ONE)])], 0, [("a", of_int(4))]))

    def test_all_short_words_against_integers(self):
        exact = groups.Exact()
        for many in range(4):
            for row in itertools.product("abcdABCD", repeat=many):
                word = "".join(row)
                self.assertEqual(trace(word), groups.reduce_higman(exact, word), word)

    def test_the_factor_at_the_least_place_is_first(self):
        rng = random.Random(1)
        models = (groups.Exact(), groups.Tall())
        for word in some_words(rng, 300):
            self.assertEqual(trace(word), groups.reduce_higman(rng.choice(models), word, min), word)

    def test_powers_are_in_turns_and_not_0(self):
        rng = random.Random(2)
        many = 0
        for word in some_words(rng, 300):
            steps, left, end = trace(word)
            for powers in [end] + [given for _, given in steps]:
                many += len(powers)
                self.assertTrue(all(letter in ("a", "c") and power != () for letter, power in powers), word)
                letters = [letter for letter, _ in powers]
                self.assertTrue(all(first != second for first, second in zip(letters, letters[1:])), word)
            if left:
                self.assertEqual(end, [])
        self.assertGreater(many, 200)

    def test_length_and_unit(self):
        rng = random.Random(3)
        for word in some_words(rng, 300):
            _, left, end = trace(word)
            self.assertEqual(length_of(word), left)
            self.assertIs(is_unit(word), left == 0 and end == [])

    def test_two_spellings_leave_the_same_powers(self):
        rng = random.Random(4)
        for _ in range(200):
            word = random_word(rng, rng.choice(("ac", "abc", "cda", "abcd")), rng.randrange(12))
            other = grown(rng, word, groups.HIGMAN_RELATORS, "abcd")
            self.assertEqual(trace(word)[1:], trace(other)[1:], (word, other))

    def test_the_inverse_has_the_inverse_powers(self):
        rng = random.Random(5)
        for word in some_words(rng, 200):
            _, left, end = trace(word)
            turned = [(letter, model.opposite(power)) for letter, power in reversed(end)]
            self.assertEqual(trace(inverse(word))[1:], (left, turned))

    def test_powers_of_two_numbers(self):
        # Each letter takes the next one to its square.
        tall = "bbbccBBB"
        for word, letter, exponent in (
            (tall, "c", of_int(16)),
            (tall + "d" + inverse(tall), "d", None),
            (tall + "d" + inverse(tall) + "a" + tall + "D" + inverse(tall), "a", model.power(of_int(65536))),
        ):
            end = [] if exponent is None else [(letter, exponent)]
            self.assertEqual(trace(word)[1:], (1 if exponent is None else 0, end))
            self.assertEqual(trace(word), groups.reduce_higman(groups.Tall(), word))
        # a ** 65536 in another half: b is taken to its power 2 ** 65536, which is no power of a or c.
        word = "dddd" + "a" + "DDDD"
        self.assertEqual(trace(word), ([(1, [("a", ONE)])], 0, [("a", of_int(16))]))
        word = word + "b" + inverse(word)
        self.assertEqual(trace(word)[1:], (1, []))
        self.assertIs(are_same(word + "c" + inverse(word), "c"), False)
        self.assertEqual(trace(word + "c" + inverse(word))[1:], (0, [("c", model.power(of_int(65536)))]))

    def test_each_call_has_its_own_lists(self):
        found = trace("dacD")
        found[0][0][1].append(("a", ONE))
        found[0].append((3, []))
        found[2].append(("c", ONE))
        self.assertEqual(trace("dacD"), ([(1, [("a", ONE), ("c", ONE)])], 1, []))

    def test_texts_that_are_no_words(self):
        for text in NO_WORDS:
            with self.subTest(text), self.assertRaises(BadForm):
                trace(text)
        self.assertEqual(trace("dD" * 20), ([], 0, []))


class CheckTraceTest(unittest.TestCase):
    def test_the_steps_of_trace(self):
        rng = random.Random(6)
        for word in some_words(rng, 300):
            steps, left, end = trace(word)
            self.assertEqual(check_trace(word, steps), (left, end))

    def test_any_order(self):
        rng = random.Random(7)
        models = (groups.Exact(), groups.Tall())
        for word in some_words(rng, 250):
            for pick in (rng.choice, max):
                steps, left, end = groups.reduce_higman(rng.choice(models), word, pick)
                self.assertEqual(check_trace(word, steps), (left, end), (word, steps))
                self.assertEqual(trace(word)[1:], (left, end))

    def test_fewer_steps(self):
        rng = random.Random(8)
        for word in some_words(rng, 200):
            steps, left, end = trace(word)
            before = None
            for many in range(len(steps)):
                found, powers = check_trace(word, steps[:many])
                # There are at least two factors, of which one can be handed over.
                self.assertGreaterEqual(found, 2)
                self.assertEqual(powers, [])
                self.assertTrue(before is None or found in (before - 1, before - 2))
                before = found
        self.assertEqual(check_trace("dacD", []), (3, []))
        self.assertEqual(check_trace("ca", []), (0, [("c", ONE), ("a", ONE)]))
        self.assertEqual(check_trace("b", []), (1, []))
        self.assertEqual(check_trace("", []), (0, []))
        self.assertEqual(check_trace("dD", []), (0, []))

    def test_the_first_and_the_last_factor(self):
        self.assertEqual(check_trace("ada", [(0, [("a", ONE)])]), (2, []))
        self.assertEqual(check_trace("ada", [(2, [("a", ONE)])]), (2, []))
        self.assertEqual(check_trace("ada", [(2, [("a", ONE)]), (0, [("a", ONE)])]), (1, []))
        self.assertEqual(check_trace("ada", [(0, [("a", ONE)]), (1, [("a", ONE)])]), (1, []))
        self.assertEqual(check_trace("adDc", [(1, [])]), (0, [("a", ONE), ("c", ONE)]))

    def test_nothing_can_be_handed_over(self):
        for word, steps in (
            ("", [(0, [])]), ("", [(-1, [])]), ("a", [(0, [("a", ONE)])]), ("dD", [(0, [])]), ("b", [(0, [])]),
            ("bd", [(0, [])]), ("bd", [(1, [])]), ("da", [(0, [])]), ("da", [(-1, [("a", ONE)])]),
            ("da", [(2, [("a", ONE)])]), ("da", [(99, [])]), ("da", [(-2, [])]), ("dDa", [(-2, [])]),
            ("da", [(1, [("a", ONE)]), (0, [])]), ("dDa", [(0, []), (0, [("a", ONE)])]),
            ("dab", [(1, [("a", ONE)])]), ("dacD", [(1, [("a", ONE), ("c", ONE)]), (0, [])]),
            ("dAbbaBD", [(0, [])]), ("dAbbaBD", [(1, []), (0, [])]), ("bdDb", [(0, [])]),
        ):
            with self.subTest((word, steps)), self.assertRaises(Missing):
                check_trace(word, steps)

    def test_other_powers(self):
        for word, steps in (
            ("da", [(1, [])]), ("da", [(1, [("a", TWO)])]), ("da", [(1, [("c", ONE)])]), ("dDa", [(0, [("a", ONE)])]),
            ("da", [(1, [("a", ONE), ("c", ONE)])]), ("dca", [(1, [("a", ONE), ("c", ONE)])]),
            ("daad", [(1, [("a", ONE), ("a", ONE)])]), ("dad", [(1, [("a", of_int(-1))])]),
            ("dacd", [(1, [("a", ONE)])]), ("dacd", [(1, [("c", ONE)])]),
            ("dAAcd", [(1, [("a", of_int(-2)), ("c", ())])]), ("dbBd", [(1, [("a", ())])]),
        ):
            with self.subTest((word, steps)), self.assertRaises(NotAllowed):
                check_trace(word, steps)

    def test_which_error_comes_first(self):
        for word, steps, error in (
            ("e", [(0, [])], BadForm),
            ("dD" * 20 + "a", [(9, [])], BadForm),
            ("dada", [(1, []), (9, [])], NotAllowed),
            ("dada", [(9, []), (1, [])], Missing),
            ("dada", [(1, [("a", ONE)]), (1, [])], NotAllowed),
            ("dada", [(1, [("a", ONE)]), (0, []), (1, [])], Missing),
            ("dab", [(1, [("b", ONE)])], Missing),
        ):
            with self.subTest((word, steps)), self.assertRaises(error):
                check_trace(word, steps)

    def test_the_list_stays_as_it_was(self):
        steps = [(1, [("a", ONE), ("c", ONE)])]
        found = check_trace("dacD", steps)
        self.assertEqual(found, (1, []))
        self.assertEqual(steps, [(1, [("a", ONE), ("c", ONE)])])
        powers = [("a", ONE)]
        left, end = check_trace("adD", [(0, powers)])
        self.assertEqual((left, end), (0, [("a", ONE)]))
        end.append(("c", ONE))
        self.assertEqual(powers, [("a", ONE)])
        with self.assertRaises(NotAllowed):
            check_trace("da", steps)
        self.assertEqual(steps, [(1, [("a", ONE), ("c", ONE)])])

    def test_texts_that_are_no_words(self):
        for text in NO_WORDS:
            with self.subTest(text), self.assertRaises(BadForm):
                check_trace(text, [])


if __name__ == "__main__":
    unittest.main()
