"""[2.1], [2.10] and the heading sandreckoner/remainders.py."""

import math
import random
import time
import unittest

import model
from sandreckoner.errors import NotAllowed
from sandreckoner.products import multiply
from sandreckoner.remainders import power_remainder, powers_of_two, remainder
from sandreckoner.sums import add, subtract

GREAT = model.raised(model.number(100), 2)
MODULI = [1, 2, 3, 4, 5, 6, 7, 12, 16, 48, 97, 1000, 1024, 4096, 6144, 8191, 8192, 9973, 9999, 10000]
OUTSIDE = [0, -1, -2, -10000, 10001, 10002, 2 ** 40, -(2 ** 40)]
TALL = [
    GREAT,
    model.plus(GREAT, model.number(-7)),
    model.raised(GREAT, 1),
    model.plus(model.raised(GREAT, 2), model.opposite(model.raised(GREAT, 1))),
    model.raised(model.plus(GREAT, model.number(5)), 3),
    model.raised((), 39),
    model.raised((), 40),
    model.of_size(300),
    model.power(model.of_size(299)),
]


class RemainderTest(unittest.TestCase):
    def test_integers(self):
        for value in range(-130, 131):
            for m in list(range(1, 40)) + MODULI:
                self.assertEqual(remainder(model.number(value), m), value % m)

    def test_dense_and_sparse_integers(self):
        rng = random.Random(51)
        for _ in range(300):
            value, m = model.random_integer(rng), rng.choice(MODULI + [rng.randrange(1, 10001)])
            if model.is_allowed(model.number(value)):
                self.assertEqual(remainder(model.number(value), m), value % m)

    def test_integers_of_many_digits(self):
        rng = random.Random(52)
        for _ in range(100):
            value = sum(rng.choice((1, -1)) << rng.randrange(2800) for _ in range(10))
            m = rng.choice(MODULI + [rng.randrange(1, 10001)])
            self.assertEqual(remainder(model.number(value), m), value % m)

    def test_exponents_of_many_digits(self):
        rng = random.Random(53)
        for _ in range(200):
            exponents = [sum(1 << rng.randrange(2800) for _ in range(4)) for _ in range(3)]
            signs = [rng.choice((1, -1)) for _ in exponents]
            x = model.total([(sign, model.number(place)) for sign, place in zip(signs, exponents)])
            m = rng.choice(MODULI + [rng.randrange(1, 10001)])
            expected = sum(sign * pow(2, place, m) for sign, place in zip(signs, exponents)) % m
            self.assertEqual(remainder(x, m), expected)

    def test_great_numbers(self):
        rng = random.Random(54)
        for x in TALL + [model.random_number(rng, 8) for _ in range(60)]:
            for m in MODULI + [rng.randrange(1, 10001) for _ in range(5)]:
                self.assertEqual(remainder(x, m), model.remainder(x, m))
                self.assertEqual(remainder(model.opposite(x), m), -model.remainder(x, m) % m)

    def test_sums_and_products_have_the_remainders_of_the_remainders(self):
        rng = random.Random(55)
        for _ in range(150):
            x, y = model.random_number(rng, 3), model.random_number(rng, 3)
            x, y = model.total(x[:3]), model.total(y[:3])
            if model.size(x) > 60 or model.size(y) > 60:
                continue
            for m in [rng.choice(MODULI), rng.randrange(1, 10001)]:
                a, b = remainder(x, m), remainder(y, m)
                self.assertTrue(0 <= a < m)
                self.assertEqual(remainder(add(x, y), m), (a + b) % m)
                self.assertEqual(remainder(subtract(x, y), m), (a - b) % m)
                if model.is_allowed(model.times(x, y)):
                    self.assertEqual(remainder(multiply(x, y), m), a * b % m)

    def test_modulus(self):
        for m in OUTSIDE:
            for x in ((), model.number(5), model.number(-5), GREAT):
                with self.assertRaises(NotAllowed):
                    remainder(x, m)
        self.assertEqual(remainder(model.number(-1), 10000), 9999)
        for x in TALL:
            self.assertEqual(remainder(x, 1), 0)

    def test_zero(self):
        for m in MODULI:
            self.assertEqual(remainder((), m), 0)


class PowerRemainderTest(unittest.TestCase):
    def test_small_exponents(self):
        for exponent in range(80):
            for m in list(range(1, 70)) + MODULI:
                self.assertEqual(power_remainder(model.number(exponent), m), pow(2, exponent, m))

    def test_exponents_around_the_lead(self):
        for many in range(14):
            for odd in (1, 3, 5, 11):
                m = odd << many
                if m <= 10000:
                    for exponent in range(many + 8):
                        self.assertEqual(power_remainder(model.number(exponent), m), 2 ** exponent % m)

    def test_exponents_of_many_digits(self):
        rng = random.Random(56)
        for _ in range(200):
            exponent = abs(sum(rng.choice((1, -1)) << rng.randrange(2800) for _ in range(8)))
            m = rng.choice(MODULI + [rng.randrange(1, 10001)])
            self.assertEqual(power_remainder(model.number(exponent), m), pow(2, exponent, m))

    def test_tall_exponents(self):
        for exponent in TALL:
            for m in MODULI + [9241, 9857, 7919, 9728]:
                self.assertEqual(power_remainder(exponent, m), model.power_remainder(exponent, m))

    def test_sums_of_exponents(self):
        for x in TALL[:5]:
            for m in MODULI:
                for value in (1, 2, 77):
                    y = model.plus(x, model.number(value))
                    self.assertEqual(power_remainder(y, m), power_remainder(x, m) * 2 ** value % m)

    def test_negative_exponents(self):
        for exponent in (model.number(-1), model.number(-2), model.opposite(GREAT), model.opposite(model.raised((), 40))):
            for m in [1, 2, 3, 9999, 10000] + OUTSIDE:
                with self.assertRaises(NotAllowed):
                    power_remainder(exponent, m)

    def test_modulus(self):
        for m in OUTSIDE:
            for exponent in ((), model.number(5), GREAT):
                with self.assertRaises(NotAllowed):
                    power_remainder(exponent, m)
        self.assertEqual(power_remainder((), 1), 0)
        self.assertEqual(power_remainder((), 2), 1)
        self.assertEqual(power_remainder((), 10000), 1)
        self.assertEqual(power_remainder(GREAT, 1), 0)


class PowersOfTwoTest(unittest.TestCase):
    def test_by_hand(self):
        for m, expected in [
            (1, (0, 1)), (2, (1, 1)), (3, (0, 2)), (4, (2, 1)), (5, (0, 4)), (6, (1, 2)), (7, (0, 3)), (8, (3, 1)),
            (10, (1, 4)), (12, (2, 2)), (24, (3, 2)), (4096, (12, 1)), (8192, (13, 1)), (8191, (0, 13)),
            (10000, (4, 500)),
        ]:
            self.assertEqual(powers_of_two(m), expected)

    def test_by_the_definition(self):
        for m in list(range(1, 260)) + [9999, 10000, 9949, 9728]:
            found = powers_of_two(m)
            powers = [pow(2, exponent, m) for exponent in range(found[0] + 2 * found[1] + 1)]
            first = next(at for at, power in enumerate(powers) if power in powers[:at])
            lead = powers.index(powers[first])
            self.assertEqual(found, (lead, first - lead))
            self.assertTrue(all(isinstance(part, int) for part in found))

    def test_all_moduli(self):
        for m in range(1, 10001):
            lead, period = powers_of_two(m)
            twos = (m & -m).bit_length() - 1
            self.assertEqual(lead, twos)
            self.assertEqual(pow(2, lead + period, m), pow(2, lead, m))
            self.assertEqual(math.gcd(model.totient(m >> twos), period), period)

    def test_modulus(self):
        for m in OUTSIDE:
            with self.assertRaises(NotAllowed):
                powers_of_two(m)


class TimeTest(unittest.TestCase):
    def test_time_with_great_numbers(self):
        begin = time.perf_counter()
        for x in TALL:
            for m in (9949, 9941, 9967, 9973, 9857, 8192, 10000, 9999):
                remainder(x, m)
                power_remainder(x, m)
        self.assertLess(time.perf_counter() - begin, 20)


if __name__ == "__main__":
    unittest.main()
