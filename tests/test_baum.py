"""[5.5] to [5.8]: whether words of Baumslag's group are the unit, or the same."""

import itertools
import random
import string
import time
import unittest

from sandreckoner.baum import are_same, is_unit
from sandreckoner.errors import BadForm

import groups
from groups import grown, inverse, put_in, random_word, turned

NO_WORDS = ["a" * 41, "ab" * 21, "c", "C", "abc", "a b", " ", "a ", "1", "a1", "a-b", "(a)", "2^a", "."]
NO_WORDS += [letter for letter in string.ascii_letters if letter not in "abAB"]


def random_unit(rng):
    return grown(rng, "", groups.BAUM_RELATORS, "ab")


class IsUnitTest(unittest.TestCase):
    def test_short_words(self):
        for word, expected in (
            ("", True), ("a", False), ("A", False), ("b", False), ("B", False), ("aA", True), ("Aa", True),
            ("bB", True), ("Bb", True), ("ab", False), ("abAB", False), ("baB", False), ("baBA", False),
            ("bab", False), ("BaB", False), ("Bab", False), ("baBabABAA", True), ("baBabABA", False),
            ("baBabABaa", False), ("AAbaBabAB", True), ("aabAbABaB", False), ("aabaBAbAB", True),
        ):
            with self.subTest(word):
                self.assertIs(is_unit(word), expected)

    def test_words_without_outer_letters(self):
        for many in range(9):
            for row in itertools.product("aA", repeat=many):
                word = "".join(row)
                self.assertIs(is_unit(word), word.count("a") == word.count("A"))
        self.assertIs(is_unit("a" * 20 + "A" * 20), True)
        self.assertIs(is_unit("a" * 19 + "A" * 21), False)

    def test_words_over_b_alone(self):
        for many in range(9):
            for row in itertools.product("bB", repeat=many):
                word = "".join(row)
                self.assertIs(is_unit(word), word.count("b") == word.count("B"))

    def test_all_short_words_against_integers(self):
        exact = groups.Exact()
        for many in range(7):
            for row in itertools.product("aAbB", repeat=many):
                word = "".join(row)
                _, left, end = groups.reduce_baum(exact, word)
                self.assertIs(is_unit(word), left == 0 and end == ((), (), ()), word)

    def test_long_words_against_integers(self):
        rng = random.Random(1)
        exact = groups.Exact()
        for _ in range(400):
            start = random_word(rng, "ab", rng.randrange(8))
            word = grown(rng, start, groups.BAUM_RELATORS, "ab")
            _, left, end = groups.reduce_baum(exact, word)
            self.assertIs(is_unit(word), left == 0 and end == ((), (), ()), word)

    def test_relators_and_pairs_put_in_anywhere(self):
        rng = random.Random(2)
        lengths = set()
        for _ in range(600):
            word = random_unit(rng)
            lengths.add(len(word))
            self.assertIs(is_unit(word), True, word)
            self.assertIs(is_unit(inverse(word)), True, word)
            self.assertIs(is_unit(turned(rng, word)), True, word)
        self.assertTrue({2, 9, 40} <= lengths, lengths)

    def test_one_letter_more_is_not_the_unit(self):
        rng = random.Random(3)
        for _ in range(400):
            word = grown(rng, "", groups.BAUM_RELATORS, "ab", 39)
            # The unit times a power of a letter, which is not the unit.
            longer = put_in(rng, word, random_word(rng, "ab", 1))
            self.assertIs(is_unit(longer), False, longer)

    def test_powers_of_a(self):
        # t ** n a T ** n is a ** (2 ** n), with t ** n = b a ** n B.
        for n in range(1, 5):
            word = "b" + "a" * n + "Bab" + "A" * n + "B"
            self.assertIs(is_unit(word + "A" * 2 ** n), True)
            self.assertIs(is_unit("A" * 2 ** n + word), True)
            self.assertIs(is_unit(word + "A" * (2 ** n - 1)), False)
            self.assertIs(is_unit(word + "A" * (2 ** n + 1)), False)
            # T ** n a t ** n is half as much each time, and no power of a.
            half = "b" + "A" * n + "Bab" + "a" * n + "B"
            self.assertIs(is_unit(half * 2 + "A"), n == 1)
            self.assertIs(is_unit(half + "A"), False)

    def test_texts_that_are_no_words(self):
        for text in NO_WORDS:
            with self.subTest(text), self.assertRaises(BadForm):
                is_unit(text)
        self.assertIs(is_unit("aA" * 20), True)
        self.assertIs(is_unit("a" * 40), False)


class AreSameTest(unittest.TestCase):
    def test_against_is_unit(self):
        rng = random.Random(4)
        for _ in range(300):
            first = random_word(rng, "ab", rng.randrange(6))
            second = rng.choice((random_word(rng, "ab", rng.randrange(6)), grown(rng, first, ["baBabABAA"], "ab")))
            found = are_same(first, second)
            if len(first + second) <= 40:
                self.assertIs(found, is_unit(first + inverse(second)))
                self.assertIs(found, is_unit(inverse(first) + second))
            self.assertIs(are_same(second, first), found)
            self.assertIs(are_same(inverse(first), inverse(second)), found)
            third = random_word(rng, "ab", 5)
            if len(second) <= 35:
                self.assertIs(are_same(first + third, second + third), found)
                self.assertIs(are_same(third + first, third + second), found)

    def test_spellings(self):
        rng = random.Random(5)
        for _ in range(300):
            word = random_word(rng, "ab", rng.randrange(1, 20))
            first, second = [grown(rng, word, groups.BAUM_RELATORS, "ab") for _ in range(2)]
            self.assertIs(are_same(first, second), True, (first, second))
            self.assertIs(are_same(first, word), True)
            # b added to one of them changes its sum of the letters b.
            self.assertIs(are_same((first + "b")[-40:], first[-39:]), False)

    def test_two_words_of_40_letters(self):
        rng = random.Random(6)
        tried = 0
        while tried < 100:
            word = random_word(rng, "ab", rng.randrange(1, 39))
            first, second = [grown(rng, word, groups.BAUM_RELATORS, "ab") for _ in range(2)]
            if len(first) == len(second) == 40:
                tried += 1
                self.assertIs(are_same(first, second), True, (first, second))
                other = second[:-1] + second[-1].swapcase()
                self.assertIs(are_same(first, other), False, (first, other))
        self.assertIs(are_same("b" * 40, "b" * 40), True)
        self.assertIs(are_same("b" * 40, "B" * 40), False)
        self.assertIs(are_same("ab" * 20, "ab" * 19 + "ba"), False)

    def test_towers_of_twos(self):
        rng = random.Random(7)
        # 2 ** 2 ** 4 = 65536 in 31 letters; one b more ahead and one B behind: t to that power.
        for storeys, start in ((1, 1), (1, 9), (2, 1), (2, 3), (2, 4), (2, 5), (2, 6)):
            first, second = groups.spelled(rng, storeys, start)
            self.assertLessEqual(len(first), 40)
            with self.subTest(first):
                self.assertIs(are_same(first, second), True)
                self.assertIs(are_same(first[:39] + "a", second[:39]), False)
                # Powers of a are in any order.
                if len(first) < 40:
                    self.assertIs(are_same("a" + first, first + "a"), True)
                    self.assertIs(are_same("a" + first, "A" + first), False)
        word = "b" + groups.doubled(groups.doubled("aaaa")) + "B"
        # t ** 65536 doubles 65536 times: it takes a to the power 2 ** 65536.
        self.assertIs(are_same(word + "a", "a" + word), False)
        self.assertIs(are_same(word + "ba" + "B", "baB" + word), True)

    def test_texts_that_are_no_words(self):
        for text in NO_WORDS:
            for first, second in ((text, "a"), ("a", text), (text, text)):
                with self.subTest((first, second)), self.assertRaises(BadForm):
                    are_same(first, second)
        self.assertIs(are_same("", ""), True)
        self.assertIs(are_same("", "aA"), True)
        self.assertIs(are_same("", "a"), False)


class TimeTest(unittest.TestCase):
    def test_words_of_40_letters(self):
        rng = random.Random(8)
        words = [random_word(rng, "ab", 40) for _ in range(200)]
        words += [grown(rng, random_word(rng, "ab", 15), groups.BAUM_RELATORS, "ab") for _ in range(200)]
        begin = time.perf_counter()
        for word in words:
            is_unit(word)
            are_same(word, words[0])
        self.assertLess((time.perf_counter() - begin) / len(words), 0.02)


if __name__ == "__main__":
    unittest.main()
