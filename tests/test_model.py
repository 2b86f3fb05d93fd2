"""The model that other tests rely on, against Python's integers."""

import random
import unittest

import model


class ModelTest(unittest.TestCase):
    def test_numbers_of_integers(self):
        for value in range(-300, 301):
            x = model.number(value)
            self.assertEqual(model.value_of(x), value)
            self.assertTrue(model.has_form(x))

    def test_sums_and_products(self):
        rng = random.Random(1)
        for _ in range(200):
            a, b = rng.randrange(-5000, 5001), rng.randrange(-5000, 5001)
            self.assertEqual(model.plus(model.number(a), model.number(b)), model.number(a + b))
            self.assertEqual(model.times(model.number(a), model.number(b)), model.number(a * b))

    def test_sums_with_exponents_above_the_known_ones(self):
        rng = random.Random(2)
        for _ in range(100):
            a = sum(rng.choice((1, -1)) << rng.randrange(1990, 2010) for _ in range(6))
            b = sum(rng.choice((1, -1)) << rng.randrange(1990, 2010) for _ in range(6))
            self.assertEqual(model.plus(model.number(a), model.number(b)), model.number(a + b))

    def test_order(self):
        for a in range(-40, 41):
            for b in range(-40, 41):
                self.assertEqual(model.order(model.number(a), model.number(b)), (a > b) - (a < b))

    def test_remainders(self):
        rng = random.Random(3)
        for _ in range(300):
            value, m = rng.getrandbits(200) - 2 ** 199, rng.randrange(1, 10001)
            self.assertEqual(model.remainder(model.number(value), m), value % m)

    def test_sizes(self):
        for wanted in (60, 150, 299, 300, 301):
            self.assertEqual(model.size(model.of_size(wanted)), wanted)
            self.assertTrue(model.has_form(model.of_size(wanted)))


if __name__ == "__main__":
    unittest.main()
