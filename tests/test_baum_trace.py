"""[5.6] to [5.8]: the pinches that reducing a word of Baumslag's group makes, and pinches in other orders."""

import itertools
import random
import string
import unittest

import model

from sandreckoner.baum import UNIT, are_same, is_plain, is_unit
from sandreckoner.baum_trace import check_trace, trace
from sandreckoner.errors import BadForm, Missing, NotAllowed
from sandreckoner.forms import of_int

import groups
from groups import grown, inverse, random_word

NO_WORDS = ["a" * 41, "bB" * 21, "c", "C", "a c", "b B", " ", "1", "."]
NO_WORDS += [letter for letter in string.ascii_letters if letter not in "abAB"]


def some_words(rng, many):
    for _ in range(many):
        start = random_word(rng, "ab", rng.choice((0, 1, 3, 8, 25)))
        yield rng.choice((start, grown(rng, start, groups.BAUM_RELATORS, "ab")))


class TraceTest(unittest.TestCase):
    def test_single_words(self):
        one, two = of_int(1), of_int(2)
        for word, steps, left, end in (
            ("", [], 0, UNIT),
            ("a", [], 0, (one, (), ())),
            ("aaaa", [], 0, (one, two, ())),
            ("AAAaA", [], 0, (of_int(-3), (), ())),
            ("aA", [], 0, UNIT),
            ("b", [], 1, None),
            ("bab", [], 2, None),
            ("Bab", [], 2, None),
            ("BaB", [], 2, None),
            ("bbb", [], 3, None),
            ("bB", [(0, ())], 0, UNIT),
            ("Bb", [(0, ())], 0, UNIT),
            ("baAB", [(0, ())], 0, UNIT),
            ("baB", [(0, one)], 0, ((), (), one)),
            ("bAAB", [(0, of_int(-2))], 0, ((), (), of_int(-2))),
            # a times T T times a takes z to z / 4 + 5 / 4.
            ("abAABa", [(0, of_int(-2))], 0, (of_int(5), of_int(-2), of_int(-2))),
            # t t is no integer, so that it stays between b and B.
            ("bbaaBB", [(1, two)], 2, None),
            # B t t t b is a a a.
            ("BbaaaBb", [(0, ()), (0, ())], 0, (of_int(3), (), ())),
            # B a a a b is no pinch: it would have to be a power of t.
            ("BBbaaaBbb", [(1, ()), (1, ())], 2, None),
            # The pinch of b and B is the first one where no place before it has one.
            ("bbaBbB", [(1, one), (1, ())], 1, None),
            ("bBbaB", [(0, ()), (0, one)], 0, ((), (), one)),
            # t a T A A is the unit, and stands between b and B.
            ("bbaBabABAAB", [(1, one), (1, of_int(-1)), (0, ())], 0, UNIT),
            # t A T is A A.
            ("baBAbAB", [(0, one), (0, of_int(-1))], 0, (of_int(-1), one, ())),
        ):
            with self.subTest(word):
                self.assertEqual(trace(word), (steps, left, end))

    def test_all_short_words_against_integers(self):
        exact = groups.Exact()
        for many in range(7):
            for row in itertools.product("aAbB", repeat=many):
                word = "".join(row)
                self.assertEqual(trace(word), groups.reduce_baum(exact, word), word)

    def test_the_pinch_at_the_least_place_is_first(self):
        rng = random.Random(1)
        models = (groups.Exact(), groups.Tall())
        for word in some_words(rng, 300):
            expected = groups.reduce_baum(rng.choice(models), word, min)
            self.assertEqual(trace(word), expected, word)

    def test_end_and_is_unit(self):
        rng = random.Random(2)
        ended = 0
        for word in some_words(rng, 300):
            steps, left, end = trace(word)
            outer = word.count("b") + word.count("B")
            self.assertEqual(left, outer - 2 * len(steps))
            self.assertEqual(end is None, left > 0)
            self.assertEqual(is_unit(word), end == UNIT)
            if end is not None:
                ended += 1
                self.assertTrue(is_plain(end))
        self.assertGreater(ended, 50)

    def test_words_of_one_element_leave_as_many_outer_letters(self):
        rng = random.Random(3)
        for _ in range(200):
            word = random_word(rng, "ab", rng.randrange(20))
            other = grown(rng, word, groups.BAUM_RELATORS, "ab")
            self.assertEqual(trace(word)[1:], trace(other)[1:], (word, other))
            self.assertEqual(trace(inverse(word))[1], trace(word)[1])

    def test_towers_of_twos(self):
        rng = random.Random(4)
        tall = groups.Tall()
        for storeys, start, exponent in ((1, 3, 3), (1, 12, 12), (2, 3, 8), (2, 4, 16), (2, 5, 32), (2, 6, 64)):
            for word in groups.spelled(rng, storeys, start):
                found = trace(word)
                self.assertEqual(found[1:], (0, (of_int(1), of_int(exponent), ())))
                self.assertEqual(found, groups.reduce_baum(tall, word))
        # t ** (2 ** 32), and the same times a: u * 2 ** v is 2 ** (2 ** 32).
        word = "b" + groups.doubled(groups.doubled("aaaaa")) + "B"
        power = model.power(of_int(32))
        self.assertEqual(trace(word)[1:], (0, ((), (), power)))
        self.assertEqual(trace(word + "a")[1:], (0, (of_int(1), power, power)))
        # A pinch whose power is 2 ** 2 ** 16.
        word = groups.doubled(groups.doubled("aaaa"))
        whole = "b" + "b" + word + "B" + "a"
        self.assertEqual(trace(whole)[1], 1)
        self.assertEqual(trace("B" + "b" + word + "Bb")[1:], (0, (of_int(1), of_int(16), ())))

    def test_each_call_has_its_own_list(self):
        found = trace("bBbaB")
        found[0].append((7, ()))
        self.assertEqual(trace("bBbaB")[0], [(0, ()), (0, of_int(1))])

    def test_texts_that_are_no_words(self):
        for text in NO_WORDS:
            with self.subTest(text), self.assertRaises(BadForm):
                trace(text)
        self.assertEqual(trace("bB" * 20)[1:], (0, UNIT))


class CheckTraceTest(unittest.TestCase):
    def test_the_steps_of_trace(self):
        rng = random.Random(5)
        for word in some_words(rng, 300):
            steps, left, end = trace(word)
            self.assertEqual(check_trace(word, steps), (left, end))

    def test_any_order(self):
        rng = random.Random(6)
        models = (groups.Exact(), groups.Tall())
        for word in some_words(rng, 300):
            for pick in (rng.choice, max):
                steps, left, end = groups.reduce_baum(rng.choice(models), word, pick)
                self.assertEqual(check_trace(word, steps), (left, end), (word, steps))
                self.assertEqual(trace(word)[1:], (left, end))

    def test_fewer_steps(self):
        rng = random.Random(7)
        for word in some_words(rng, 200):
            steps, left, end = trace(word)
            for many in range(len(steps)):
                expected = left + 2 * (len(steps) - many)
                self.assertEqual(check_trace(word, steps[:many]), (expected, None))
        self.assertEqual(check_trace("bBbB", []), (4, None))
        self.assertEqual(check_trace("aa", []), (0, (of_int(1), of_int(1), ())))
        self.assertEqual(check_trace("", []), (0, UNIT))

    def test_no_pinch_at_the_place(self):
        one = of_int(1)
        for word, steps in (
            ("", [(0, ())]), ("a", [(0, ())]), ("b", [(0, ())]), ("bb", [(0, ())]), ("bab", [(0, one)]),
            ("Bab", [(0, one)]), ("Bab", [(0, ())]), ("bB", [(1, ())]), ("bB", [(-1, ())]), ("bB", [(-2, ())]),
            ("bB", [(2, ())]), ("bB", [(0, ()), (0, ())]), ("bBbB", [(3, ())]), ("bBbB", [(-1, ())]),
            ("bBbB", [(0, ()), (1, ())]), ("bbaaBB", [(0, one)]), ("bbaaBB", [(1, of_int(2)), (0, of_int(2))]),
            ("bBb", [(2, ())]), ("bBb", [(-3, ())]), ("baBabABAA", [(1, one)]), ("bB", [(100, ())]),
        ):
            with self.subTest((word, steps)), self.assertRaises(Missing):
                check_trace(word, steps)

    def test_another_power(self):
        one = of_int(1)
        for word, steps in (
            ("bB", [(0, one)]), ("Bb", [(0, of_int(-1))]), ("baB", [(0, ())]), ("baB", [(0, of_int(-1))]),
            ("baaB", [(0, one)]), ("bBbB", [(1, ()), (0, one)]), ("BbaaBb", [(0, ()), (0, of_int(2))]),
            ("BbaaBb", [(1, of_int(3))]),
        ):
            with self.subTest((word, steps)), self.assertRaises(NotAllowed):
                check_trace(word, steps)

    def test_which_error_comes_first(self):
        one = of_int(1)
        # The text is looked at ahead of the steps, and the steps one after another.
        for word, steps, error in (
            ("c", [(0, ())], BadForm),
            ("bB" * 20 + "b", [(5, one)], BadForm),
            ("bBbB", [(0, one), (9, ())], NotAllowed),
            ("bBbB", [(9, one), (0, one)], Missing),
            ("bBbB", [(0, ()), (0, one), (9, ())], NotAllowed),
            ("bBbB", [(0, ()), (1, one), (0, one)], Missing),
            ("bab", [(0, of_int(5))], Missing),
        ):
            with self.subTest((word, steps)), self.assertRaises(error):
                check_trace(word, steps)

    def test_the_list_stays_as_it_was(self):
        steps = [(1, ()), (0, ())]
        self.assertEqual(check_trace("bBbB", steps), (0, UNIT))
        self.assertEqual(steps, [(1, ()), (0, ())])
        with self.assertRaises(Missing):
            check_trace("bB", steps)
        self.assertEqual(steps, [(1, ()), (0, ())])

    def test_a_great_power(self):
        word = groups.doubled(groups.doubled("aaaa"))
        steps, _, _ = trace("Bb" + word + "B" + "b")
        great = model.power(of_int(16))
        self.assertIn((0, great), [(place, power) for place, power in trace("b" + word + "B")[0]])
        last = trace("b" + word + "B")[0]
        self.assertEqual(check_trace("b" + word + "B", last), (0, ((), (), great)))
        with self.assertRaises(NotAllowed):
            check_trace("b" + word + "B", last[:-1] + [(0, model.plus(great, of_int(1)))])
        self.assertEqual(check_trace("Bb" + word + "B" + "b", steps)[0], 0)

    def test_texts_that_are_no_words(self):
        for text in NO_WORDS:
            with self.subTest(text), self.assertRaises(BadForm):
                check_trace(text, [])


class SameTest(unittest.TestCase):
    def test_words_that_leave_the_same_end(self):
        rng = random.Random(8)
        for word in some_words(rng, 150):
            _, left, end = trace(word)
            other = random_word(rng, "ab", rng.randrange(6))
            _, other_left, other_end = trace(other)
            if left == 0 and other_left == 0:
                self.assertEqual(are_same(word, other), end == other_end)
            if left != other_left:
                self.assertFalse(are_same(word, other))


if __name__ == "__main__":
    unittest.main()
