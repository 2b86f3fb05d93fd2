"""Part 6: lengths of words of Higman's group, and whether words are the unit, or the same."""

import itertools
import random
import string
import time
import unittest
from fractions import Fraction

from sandreckoner.errors import BadForm
from sandreckoner.higman import are_same, is_unit, length_of

import groups
from groups import grown, inverse, put_in, random_word, turned

PAIRS = ["ab", "bc", "cd", "da"]
NO_WORDS = ["a" * 41, "abcd" * 10 + "a", "e", "E", "abe", "a b", " ", "d ", "1", "a1", "a-b", "(a)", "."]
NO_WORDS += [letter for letter in string.ascii_letters if letter not in "abcdABCD"]


def moved(word):
    """The word with each letter moved on to the next one."""
    return word.translate(str.maketrans("abcdABCD", "bcdaBCDA"))


def all_moved(word):
    found = [word]
    for _ in range(3):
        found.append(moved(found[-1]))
    return found


def random_unit(rng, most=40):
    return grown(rng, "", groups.HIGMAN_RELATORS, "abcd", most)


def freely_reduced(word):
    found = ""
    for letter in word:
        found = found[:-1] if found[-1:] == letter.swapcase() else found + letter
    return found


def function_of(pair, word):
    """What the function of a word over two neighbouring letters takes 0 and 1 to, by [6.2]."""
    found = []
    for z in (Fraction(0), Fraction(1)):
        for letter in reversed(word):
            if letter == pair[0]:
                z *= 2
            elif letter == pair[0].upper():
                z /= 2
            else:
                z += 1 if letter == pair[1] else -1
        found.append(z)
    return found


class PairsTest(unittest.TestCase):
    """Words of two neighbouring letters against functions of fractions."""

    def test_all_short_words(self):
        for pair in PAIRS:
            signs = pair + pair.upper()
            for many in range(6):
                for row in itertools.product(signs, repeat=many):
                    word = "".join(row)
                    self.assertIs(is_unit(word), function_of(pair, word) == function_of(pair, ""), word)

    def test_long_words(self):
        rng = random.Random(1)
        units = 0
        for _ in range(400):
            pair = rng.choice(PAIRS)
            p, q = pair
            relator = p + q + inverse(p) + inverse(q) * 2
            start = rng.choice(("", "", random_word(rng, pair, rng.randrange(20))))
            word = grown(rng, start, [relator], pair)
            if rng.randrange(3) == 0:
                word = put_in(rng, word[:39], rng.choice(pair))
            expected = function_of(pair, word) == function_of(pair, "")
            units += expected
            self.assertIs(is_unit(word), expected, word)
            other = random_word(rng, pair, 5)
            self.assertIs(are_same(word, other), function_of(pair, word) == function_of(pair, other))
        self.assertGreater(units, 100)

    def test_relations(self):
        for p, q in PAIRS:
            self.assertIs(are_same(p + q + inverse(p), q + q), True)
            self.assertIs(is_unit(p + q + inverse(p) + inverse(q) * 2), True)
            self.assertIs(is_unit(q + p + inverse(q) + inverse(p) * 2), False)
            self.assertIs(is_unit(p + q + inverse(p) + inverse(q)), False)
            self.assertIs(are_same(p * 3 + q, q * 8 + p * 3), True)
            self.assertIs(are_same(p * 3 + q, q * 7 + p * 3), False)


class FreeWordsTest(unittest.TestCase):
    """a and c generate a free group, and so do b and d."""

    def test_all_short_words(self):
        for letters in ("ac", "bd"):
            signs = letters + letters.upper()
            for many in range(7):
                for row in itertools.product(signs, repeat=many):
                    word = "".join(row)
                    self.assertIs(is_unit(word), freely_reduced(word) == "", word)

    def test_long_words(self):
        rng = random.Random(2)
        for letters in ("ac", "bd", "ca", "db"):
            for _ in range(100):
                word = random_word(rng, letters, rng.randrange(41))
                if rng.randrange(2):
                    word = word[:20] + inverse(word[:20])
                self.assertIs(is_unit(word), freely_reduced(word) == "", word)
                other = random_word(rng, letters, 3)
                self.assertIs(are_same(word, other), freely_reduced(word) == freely_reduced(other))

    def test_lengths_of_words_of_a_and_c(self):
        rng = random.Random(3)
        for _ in range(100):
            self.assertEqual(length_of(random_word(rng, "ac", rng.randrange(41))), 0)

    def test_lengths_of_words_of_b_and_d(self):
        # Powers of b and of d are factors, and none of them is in the free group of a and c.
        rng = random.Random(4)
        for _ in range(100):
            word = random_word(rng, "bd", rng.randrange(41))
            parts = freely_reduced(word)
            turns = [letter for letter, _ in itertools.groupby(parts.lower())]
            self.assertEqual(length_of(word), len(turns), word)


class IsUnitTest(unittest.TestCase):
    def test_short_words(self):
        for word, expected in (
            ("", True), ("a", False), ("B", False), ("c", False), ("D", False), ("aA", True), ("dD", True),
            ("Cc", True), ("ab", False), ("abAB", False), ("acAC", False), ("bdBD", False), ("abABB", True),
            ("bcBCC", True), ("cdCDD", True), ("daDAA", True), ("adADD", False), ("abABBdD", True),
            ("abcd", False), ("abcdABCD", False), ("abcdDCBA", True), ("abABBabABB", True), ("bacCAB", True),
        ):
            with self.subTest(word):
                self.assertIs(is_unit(word), expected)

    def test_all_short_words_against_integers(self):
        exact = groups.Exact()
        for many in range(4):
            for row in itertools.product("abcdABCD", repeat=many):
                word = "".join(row)
                _, length, end = groups.reduce_higman(exact, word)
                self.assertEqual(length_of(word), length, word)
                self.assertIs(is_unit(word), length == 0 and end == [], word)

    def test_relators_put_in_anywhere(self):
        rng = random.Random(5)
        lengths = set()
        for _ in range(500):
            word = random_unit(rng)
            lengths.add(len(word))
            self.assertIs(is_unit(word), True, word)
            self.assertEqual(length_of(word), 0)
            self.assertIs(is_unit(inverse(word)), True, word)
            self.assertIs(is_unit(turned(rng, word)), True, word)
        self.assertTrue({2, 5, 40} <= lengths, lengths)

    def test_each_relator_turned_round(self):
        for relator in groups.HIGMAN_RELATORS:
            for word in (relator, inverse(relator)):
                for at in range(5):
                    self.assertIs(is_unit(word[at:] + word[:at]), True)
                    self.assertIs(is_unit("db" + word[at:] + word[:at] + "BD"), True)
                    # Without its last letter it is the inverse of this letter.
                    self.assertIs(is_unit((word[at:] + word[:at])[:-1]), False)

    def test_one_letter_more_is_not_the_unit(self):
        rng = random.Random(6)
        for _ in range(300):
            word = random_unit(rng, 39)
            self.assertIs(is_unit(put_in(rng, word, random_word(rng, "abcd", 1))), False, word)

    def test_letters_moved_on(self):
        rng = random.Random(7)
        for _ in range(250):
            start = random_word(rng, rng.choice(("abcd", "abc", "bcd", "cda", "dab", "ac")), rng.randrange(12))
            word = rng.choice((start, grown(rng, start, groups.HIGMAN_RELATORS, "abcd")))
            other = rng.choice((grown(rng, start, groups.HIGMAN_RELATORS, "abcd"), random_word(rng, "abcd", 5)))
            unit, same = is_unit(word), are_same(word, other)
            for first, second in zip(all_moved(word), all_moved(other)):
                self.assertIs(is_unit(first), unit, first)
                self.assertIs(are_same(first, second), same, (first, second))

    def test_commutators_over_two_halves(self):
        # b and d generate a free group, and no power of b is one of d.
        for word in ("bdBD", "bbdBBD", "bddBDD", "bdbDBDBd"):
            self.assertIs(is_unit(word), False)
        # a ** 4 and d ** 2 : d d a D D is a a a a.
        self.assertIs(is_unit("ddaDDAAAA"), True)
        self.assertIs(is_unit("bddaDDAAAAB"), True)
        self.assertIs(is_unit("ddaDD" + "bB" + "AAAA"), True)
        self.assertIs(is_unit("ddaDD" + "b" + "AAAA" + "B"), False)
        # d a D b d A D is a a b A A, and that is b ** 4.
        self.assertIs(is_unit("daDbdAD" + "BBBB"), True)
        self.assertIs(is_unit("daDbdAD" + "BBB"), False)
        # A word with factors that are handed over to and fro.
        self.assertIs(is_unit("cdCacDCAAAA"), True)

    def test_texts_that_are_no_words(self):
        for text in NO_WORDS:
            for function in (is_unit, length_of):
                with self.subTest(text), self.assertRaises(BadForm):
                    function(text)


class LengthTest(unittest.TestCase):
    def test_single_words(self):
        for word, expected in (
            ("", 0), ("a", 0), ("c", 0), ("b", 1), ("d", 1), ("cA", 0), ("ab", 1), ("bB", 0), ("dD", 0), ("bd", 2),
            ("bdb", 3), ("dbd", 3), ("bdBD", 4), ("ad", 1), ("dad", 1), ("dacd", 1), ("dabd", 3), ("bab", 1),
            ("bad", 2), ("abABB", 0), ("daDb", 1), ("dbBD", 0), ("dbBb", 2), ("d" * 40, 1), ("bd" * 20, 40),
            ("bcBd", 1), ("bcBdb", 2), ("aBAbbbd", 2), ("aBAbbd", 1),
        ):
            with self.subTest(word):
                self.assertEqual(length_of(word), expected)

    def test_other_spellings(self):
        rng = random.Random(8)
        for _ in range(250):
            word = random_word(rng, "abcd", rng.randrange(10))
            other = grown(rng, word, groups.HIGMAN_RELATORS, "abcd")
            self.assertEqual(length_of(word), length_of(other), (word, other))
            self.assertEqual(length_of(inverse(word)), length_of(word))

    def test_against_integers(self):
        rng = random.Random(9)
        exact = groups.Exact()
        for _ in range(250):
            word = random_word(rng, "abcd", rng.randrange(41))
            self.assertEqual(length_of(word), groups.reduce_higman(exact, word)[1], word)


class AreSameTest(unittest.TestCase):
    def test_against_is_unit(self):
        rng = random.Random(10)
        for _ in range(200):
            first = random_word(rng, "abcd", rng.randrange(7))
            second = rng.choice((
                random_word(rng, "abcd", rng.randrange(3)), grown(rng, first, groups.HIGMAN_RELATORS, "abcd")
            ))
            found = are_same(first, second)
            if len(first + second) <= 40:
                self.assertIs(found, is_unit(first + inverse(second)))
                self.assertIs(found, is_unit(inverse(first) + second))
            self.assertIs(are_same(second, first), found)
            self.assertIs(are_same(inverse(first), inverse(second)), found)
            if len(second) <= 35:
                third = random_word(rng, "abcd", 5)
                self.assertIs(are_same(first + third, second + third), found)
                self.assertIs(are_same(third + first, third + second), found)

    def test_two_words_of_40_letters(self):
        rng = random.Random(11)
        tried = 0
        while tried < 100:
            word = random_word(rng, "abcd", rng.randrange(39))
            first, second = [grown(rng, word, groups.HIGMAN_RELATORS, "abcd") for _ in range(2)]
            if len(first) == len(second) == 40:
                tried += 1
                self.assertIs(are_same(first, second), True, (first, second))
                self.assertIs(are_same(first, second[:-1] + second[-1].swapcase()), False)
        self.assertIs(are_same("bd" * 20, "bd" * 20), True)
        self.assertIs(are_same("bd" * 20, "bd" * 19 + "db"), False)

    def test_two_spellings_of_a_tall_power(self):
        # c ** 16 doubles d so often: d ** 65536; and that takes a to the power 2 ** 65536.
        first = "bbbbcBBBB"
        second = "bbbccBBB"
        third = "aabAAcaaBAA"
        self.assertIs(are_same(first, "c" * 16), True)
        self.assertIs(are_same(third, second), True)
        tall = [word + "d" + inverse(word) for word in (first, second)]
        great = [word + "a" + inverse(word) for word in tall]
        self.assertEqual([len(word) for word in great], [39, 35])
        for words in (tall, great):
            for one, other in zip(all_moved(words[0]), all_moved(words[1])):
                self.assertIs(are_same(one, other), True)
                self.assertIs(are_same(one, other[:-1]), False)
                self.assertIs(are_same(one, one[:4] + one[3:]), False)
                self.assertIs(is_unit(one), False)
        # Powers of one letter are in any order; those of a and d are not.
        self.assertIs(are_same("a" + great[0], great[1] + "a"), True)
        self.assertIs(are_same("a" + great[1] + "A", great[0]), True)
        self.assertIs(are_same("d" + great[1] + "D", great[0]), False)
        self.assertIs(are_same("d" + great[1] + "D", great[1] + "a"), False)
        self.assertEqual(length_of(great[0]), 0)
        self.assertEqual(length_of(tall[0]), 1)

    def test_texts_that_are_no_words(self):
        for text in NO_WORDS:
            for first, second in ((text, "a"), ("a", text), (text, text)):
                with self.subTest((first, second)), self.assertRaises(BadForm):
                    are_same(first, second)
        self.assertIs(are_same("", ""), True)
        self.assertIs(are_same("a", ""), False)
        self.assertIs(are_same("", "abABB"), True)


class TimeTest(unittest.TestCase):
    def test_words_of_40_letters(self):
        rng = random.Random(12)
        words = [random_word(rng, "abcd", 40) for _ in range(150)]
        words += [grown(rng, random_word(rng, "abcd", 10), groups.HIGMAN_RELATORS, "abcd") for _ in range(150)]
        begin = time.perf_counter()
        for word in words:
            is_unit(word)
            are_same(word, words[0])
        self.assertLess((time.perf_counter() - begin) / len(words), 0.02)


if __name__ == "__main__":
    unittest.main()
