"""[2.7], [2.8], [2.10] and the heading sandreckoner/last.py."""

import random
import time
import unittest

import model
from sandreckoner.digits import length
from sandreckoner.errors import NotAllowed, TooLarge
from sandreckoner.last import last_digits, lead

GREAT = model.raised(model.number(100), 2)
TALL = [
    GREAT,
    model.plus(GREAT, model.number(-7)),
    model.raised(GREAT, 1),
    model.plus(model.raised(GREAT, 2), model.opposite(model.raised(GREAT, 1))),
    model.raised(model.plus(GREAT, model.number(5)), 3),
    model.raised((), 39),
    model.raised((), 40),
    model.of_size(300),
    model.power(model.of_size(299)),
]


def first_digits(value, k):
    return abs(value) >> max(abs(value).bit_length() - k, 0)


def above(base, value):
    """value * 2 ** base, where base has no exponents near those of small integers."""
    return tuple((sign, model.plus(base, model.number(place))) for sign, place in model.places_of(value))


class LeadTest(unittest.TestCase):
    def test_integers(self):
        for value in range(-300, 301):
            for k in (1, 2, 3, 5, 8, 9, 10, 59, 60):
                self.assertEqual(lead(model.number(value), k), first_digits(value, k))

    def test_dense_and_sparse_integers(self):
        rng = random.Random(101)
        for _ in range(300):
            value = model.random_integer(rng)
            if model.is_allowed(model.number(value)):
                for k in (1, 2, rng.randrange(1, 61), 59, 60):
                    self.assertEqual(lead(model.number(value), k), first_digits(value, k))

    def test_integers_of_many_digits(self):
        rng = random.Random(102)
        for _ in range(100):
            value = sum(rng.choice((1, -1)) << rng.randrange(2700, 2780) for _ in range(8)) + rng.randrange(-9, 10)
            for k in (1, 2, 3, 30, 60):
                self.assertEqual(lead(model.number(value), k), first_digits(value, k))

    def test_around_k_digits(self):
        for k in (1, 2, 3, 7, 31, 59, 60):
            for value in (2 ** k - 1, 2 ** k, 2 ** k + 1, 2 ** (k - 1), 2 ** (k - 1) - 1, 2 ** (k + 1) - 1, 3 * 2 ** k // 4):
                for turned in (value, -value):
                    self.assertEqual(lead(model.number(turned), k), first_digits(value, k))
            self.assertEqual(lead(model.number(2 ** k - 1), k), 2 ** k - 1)
            self.assertEqual(lead(model.number(2 ** k), k), 2 ** (k - 1))
            self.assertEqual(lead(model.number(-(2 ** (k + 1) - 1)), k), 2 ** k - 1)

    def test_multiples_of_a_great_power(self):
        rng = random.Random(103)
        for base in (GREAT, model.power(GREAT), model.number(2 ** 600)):
            for _ in range(60):
                a, b = rng.choice((1, -1)) * rng.randrange(1, 3000), rng.randrange(-300, 300)
                x = above(base, a) + model.number(b)
                long = abs((a << 100) + (b > 0) - (b < 0))
                for k in (1, 2, 5, 12, 13, 40, 60):
                    self.assertEqual(lead(x, k), first_digits(long, k))

    def test_great_numbers_by_hand(self):
        for k in (1, 2, 17, 60):
            for x in (GREAT, model.raised((), 40), model.plus(GREAT, model.number(1)), model.power(model.of_size(299))):
                self.assertEqual(lead(x, k), 2 ** (k - 1))
                self.assertEqual(lead(model.opposite(x), k), 2 ** (k - 1))
            for x in (model.preceding(GREAT), model.plus(model.power(GREAT), model.opposite(GREAT))):
                self.assertEqual(lead(x, k), 2 ** k - 1)
                self.assertEqual(lead(model.opposite(x), k), 2 ** k - 1)
        self.assertEqual(lead(((1, GREAT), (-1, model.plus(GREAT, model.number(-2)))), 5), 0b11000)
        self.assertEqual(lead(((1, GREAT), (-1, model.plus(GREAT, model.number(-2))), (-1, ())), 5), 0b10111)

    def test_towers_of_twos(self):
        for storeys in range(1, 41):
            x = model.raised((), storeys)
            value = 2 ** 60 if storeys > 5 else model.value_of(x)
            for k in (1, 3, 60):
                self.assertEqual(lead(x, k), first_digits(value, k))

    def test_lengths_that_are_not_allowed(self):
        # The length of 2 ** exponent is exponent + 1: the term 2 of the exponent becomes 4 - 1, which takes more.
        exponent = model.of_size(297) + ((1, model.number(1)),)
        x = model.power(exponent)
        self.assertTrue(model.is_allowed(x))
        with self.assertRaises(TooLarge):
            length(x)
        for k in range(1, 61):
            self.assertEqual(lead(x, k), 2 ** (k - 1))
            self.assertEqual(lead(model.opposite(x), k), 2 ** (k - 1))

    def test_lengths_that_are_not_allowed_with_more_terms(self):
        first = model.of_size(140) + ((1, model.number(1)),)
        for value, lower in [(4, -3), (4, -2), (5, -4), (8, -3), (3, -5)]:
            second = model.plus(first, model.number(lower))
            for sign in (1, -1):
                x = ((1, first), (sign, second))
                self.assertEqual(lead(x, 60), first_digits((1 << 60) + (sign << 60 + lower), 60))
                self.assertEqual(lead(x, value), first_digits((1 << 60) + (sign << 60 + lower), value))

    def test_zero(self):
        for k in (1, 2, 60):
            self.assertEqual(lead((), k), 0)

    def test_numbers_of_digits_that_are_not_allowed(self):
        for k in (0, -1, -60, 61, 62, 10 ** 9, -(10 ** 9)):
            for x in [(), model.number(5), model.number(-5)] + TALL:
                with self.assertRaises(NotAllowed):
                    lead(x, k)


class LastTest(unittest.TestCase):
    def test_integers(self):
        for value in list(range(-300, 301)) + list(range(9990, 10010)) + list(range(-20010, -19990)):
            for k in (1, 2, 3, 4):
                self.assertEqual(last_digits(model.number(value), k), abs(value) % 10 ** k)

    def test_dense_and_sparse_integers(self):
        rng = random.Random(104)
        for _ in range(300):
            value = model.random_integer(rng)
            if model.is_allowed(model.number(value)):
                for k in (1, 2, 3, 4):
                    self.assertEqual(last_digits(model.number(value), k), abs(value) % 10 ** k)

    def test_great_numbers(self):
        rng = random.Random(105)
        for x in TALL + [model.random_number(rng, 6) for _ in range(60)]:
            for k in (1, 2, 3, 4):
                for turned in (x, model.opposite(x)):
                    whole = turned if model.order(turned, ()) > 0 else model.opposite(turned)
                    self.assertEqual(last_digits(turned, k), model.remainder(whole, 10 ** k))

    def test_towers_of_twos(self):
        self.assertEqual([last_digits(model.raised((), n), 1) for n in range(1, 12)], [1, 2, 4] + [6] * 8)
        self.assertEqual(last_digits(model.raised((), 6), 4), pow(2, 65536, 10000))
        for storeys in range(10, 41):
            self.assertEqual(last_digits(model.raised((), storeys), 4), 8736)

    def test_zero(self):
        for k in (1, 2, 3, 4):
            self.assertEqual(last_digits((), k), 0)

    def test_numbers_of_digits_that_are_not_allowed(self):
        for k in (0, -1, -2, -4, 5, 6, 10 ** 9, -(10 ** 9)):
            for x in [(), model.number(5), model.number(-5)] + TALL:
                with self.assertRaises(NotAllowed):
                    last_digits(x, k)


class TimeTest(unittest.TestCase):
    def test_time_with_great_numbers(self):
        begin = time.perf_counter()
        for x in TALL:
            for k in (1, 30, 60):
                lead(x, k)
            for k in (1, 2, 3, 4):
                last_digits(x, k)
        self.assertLess(time.perf_counter() - begin, 20)

    def test_arguments_stay(self):
        x = model.plus(model.opposite(GREAT), model.number(7))
        kept = repr(x)
        lead(x, 7)
        last_digits(x, 2)
        self.assertEqual(repr(x), kept)


if __name__ == "__main__":
    unittest.main()
