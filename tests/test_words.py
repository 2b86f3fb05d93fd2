"""[5.4] words and inverse words."""

import itertools
import random
import unittest

from sandreckoner.words import MAX_WORD, inverse_word, is_word

import groups


class IsWordTest(unittest.TestCase):
    def test_alphabets(self):
        for letters in ("a", "ab", "abc", "abcd", "da", "xyz", "k"):
            signs = letters + letters.upper()
            for many in range(4):
                for row in itertools.islice(itertools.product(signs, repeat=many), 200):
                    self.assertIs(is_word(letters, "".join(row)), True)

    def test_letters_of_other_alphabets(self):
        for letters in ("a", "ab", "abc", "abcd"):
            for other in "abcdefgh":
                for sign in (other, other.upper()):
                    self.assertIs(is_word(letters, sign), other in letters)
                    self.assertIs(is_word(letters, "a" + sign + "A"), other in letters)

    def test_lengths(self):
        rng = random.Random(1)
        for letters in ("a", "ab", "abc", "abcd"):
            self.assertIs(is_word(letters, ""), True)
            for many in (1, 39, 40):
                self.assertIs(is_word(letters, groups.random_word(rng, letters, many)), True)
            for many in (41, 42, 80, 1000):
                self.assertIs(is_word(letters, groups.random_word(rng, letters, many)), False)

    def test_other_signs(self):
        for sign in "0123456789 .,;-+=^()<>!@[]`{}~_/\"'":
            for letters in ("a", "ab", "abcd"):
                self.assertIs(is_word(letters, sign), False)
                self.assertIs(is_word(letters, "ab" + sign), False)
                self.assertIs(is_word(letters, sign + "a"), False)

    def test_bound(self):
        self.assertEqual(MAX_WORD, 40)


class InverseWordTest(unittest.TestCase):
    def test_single_words(self):
        for word, inverse in (("", ""), ("a", "A"), ("A", "a"), ("abB", "bBA"), ("abc", "CBA"), ("xYz", "ZyX")):
            self.assertEqual(inverse_word(word), inverse)

    def test_the_inverse_of_the_inverse_is_the_text(self):
        rng = random.Random(2)
        for _ in range(300):
            word = groups.random_word(rng, rng.choice(("a", "ab", "abcd", "abcdxyz")), rng.randrange(90))
            self.assertEqual(inverse_word(inverse_word(word)), word)
            self.assertEqual(inverse_word(word), groups.inverse(word))

    def test_the_inverse_of_two_words_one_after_another(self):
        rng = random.Random(3)
        for _ in range(100):
            first = groups.random_word(rng, "abcd", rng.randrange(20))
            second = groups.random_word(rng, "abcd", rng.randrange(20))
            self.assertEqual(inverse_word(first + second), inverse_word(second) + inverse_word(first))


if __name__ == "__main__":
    unittest.main()
