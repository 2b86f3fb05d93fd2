"""What the files bare.py and small.py do beyond the bounds of allowed numbers."""

import random
import unittest

import model
from sandreckoner.bare import bare_shift, bare_sum, gap, rank
from sandreckoner.small import bare_number, plus_small, signed_places, value_within

GREAT = model.raised(model.number(100), 2)


def halves(many):
    """Two integers of about 2 * many digits, the greater one first, that differ by 1 and have no term in common."""
    return 2 * (4 ** many - 1) // 3 + 1, 2 * (4 ** many - 1) // 3


class SmallTest(unittest.TestCase):
    def test_integers_of_any_length(self):
        rng = random.Random(71)
        for many in (1, 10, 64, 500, 5000):
            for value in (rng.getrandbits(many), -rng.getrandbits(many), 4 ** many // 3):
                self.assertEqual(signed_places(value)[::-1], model.places_of(value))
                self.assertEqual(bare_number(value), model.number(value))

    def test_value_within(self):
        for value in range(-200, 201):
            x = model.number(value)
            for bits in range(12):
                expected = None if x and model.value_of(x[0][1]) > bits else value
                self.assertEqual(value_within(x, bits), expected)
        self.assertIsNone(value_within(model.raised((), 60), 10 ** 6))

    def test_plus_small(self):
        rng = random.Random(72)
        for many in (3, 30, 300):
            for _ in range(50):
                a, b = rng.getrandbits(many) - 2 ** many // 2, rng.getrandbits(many) - 2 ** many // 2
                self.assertEqual(plus_small(model.number(a), b), model.number(a + b))
                x = model.power(model.number(2 ** 400)) + model.number(a)
                expected = model.power(model.number(2 ** 400)) + model.number(a + b)
                self.assertEqual(plus_small(x, b), expected)


class BareTest(unittest.TestCase):
    def test_gap(self):
        for a in range(0, 60):
            for b in range(0, a + 1):
                self.assertEqual(gap(model.number(a), model.number(b)), a - b)
                above = model.power(GREAT)
                self.assertEqual(gap(above + model.number(a), above + model.number(b)), a - b)
        self.assertIsNone(gap(GREAT, model.number(7)))
        self.assertIsNone(gap(model.following(GREAT), model.number(7)))
        self.assertIsNone(gap(model.power(GREAT), GREAT))

    def test_gap_without_a_term_in_common(self):
        for many in (5, 20, 40, 70, 150, 300):
            upper, lower = halves(many)
            x, y = model.number(upper), model.number(lower)
            self.assertNotEqual(x[0], y[0])
            self.assertEqual(gap(x, y), 1)
            self.assertEqual(gap(model.power(GREAT) + x, model.power(GREAT) + y), 1)
            for sign in (1, -1):
                expected = model.power(y) if sign < 0 else model.total([(1, model.number(upper + 1)), (-1, y)])
                self.assertEqual(bare_sum([(1, x), (sign, y)]), expected)

    def test_sums_with_exponents_that_are_not_allowed(self):
        rng = random.Random(73)
        for many in (60, 120):
            for _ in range(20):
                base = rng.choice(halves(many))
                rows = [(rng.choice((1, -1)), base + rng.randrange(-4, 5)) for _ in range(6)]
                value = sum(sign << place for sign, place in [(sign, place - base + 4) for sign, place in rows])
                expected = tuple((sign, model.number(base - 4 + place)) for sign, place in model.places_of(value))
                self.assertEqual(bare_sum([(sign, model.number(place)) for sign, place in rows]), expected)

    def test_sums_of_many_terms(self):
        rng = random.Random(74)
        rows = [(rng.choice((1, -1)), rng.randrange(900)) for _ in range(3000)]
        value = sum(sign << place for sign, place in rows)
        self.assertEqual(bare_sum([(sign, model.number(place)) for sign, place in rows]), model.number(value))
        self.assertEqual(bare_sum([(1, GREAT)] * 3000), bare_shift(model.number(3000), GREAT))

    def test_rank(self):
        rng = random.Random(75)
        rows = [model.random_number(rng, 5) for _ in range(40)]
        for x in rows:
            for y in rows:
                self.assertEqual((rank(x) > rank(y)) - (rank(x) < rank(y)), model.order(x, y))
                self.assertEqual((rank(x, -1) > rank(y, -1)) - (rank(x, -1) < rank(y, -1)), model.order(y, x))


if __name__ == "__main__":
    unittest.main()
