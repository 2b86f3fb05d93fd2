"""What the files bare.py and small.py do beyond the bounds of allowed numbers."""

import random
import unittest

import model
from sandreckoner.bare import bare_shift, bare_sum, gap, index_in, order, plus, settled
from sandreckoner.small import FIRST_END, FIRST_NUMBERS, bare_number, plus_small, signed_places, value_within

GREAT = model.raised(model.number(100), 2)


def halves(many):
    """Two integers of about 2 * many digits, the greater one first, that differ by 1 and have no term in common."""
    return 2 * (4 ** many - 1) // 3 + 1, 2 * (4 ** many - 1) // 3


class SmallTest(unittest.TestCase):
    def test_integers_of_any_length(self):
        rng = random.Random(71)
        for many in (1, 10, 64, 500, 5000):
            for value in (rng.getrandbits(many), -rng.getrandbits(many), 4 ** many // 3):
                self.assertEqual(signed_places(value)[::-1], model.places_of(value))
                self.assertEqual(bare_number(value), model.number(value))

    def test_first_numbers(self):
        self.assertEqual(list(FIRST_NUMBERS), [model.number(value) for value in range(FIRST_END)])

    def test_value_within_of_great_numbers(self):
        for bits in (0, 1, 2, 3, 6, 7, 8, 9, 15, 16, 64, 512, 1000):
            for place in (bits - 1, bits, bits + 1, bits + 2, 3 * bits):
                for more in (0, 1, -1):
                    value = (1 << max(place, 0)) + more
                    within = not value or model.places_of(value)[0][1] <= bits
                    self.assertEqual(value_within(model.number(value), bits), value if within else None)
            self.assertIsNone(value_within(model.power(GREAT), bits))
            self.assertIsNone(value_within(model.opposite(model.raised((), 40)), bits))

    def test_value_within(self):
        for value in range(-200, 201):
            x = model.number(value)
            for bits in range(12):
                expected = None if x and model.value_of(x[0][1]) > bits else value
                self.assertEqual(value_within(x, bits), expected)
        self.assertIsNone(value_within(model.raised((), 60), 10 ** 6))

    def test_plus_small(self):
        rng = random.Random(72)
        for many in (3, 30, 300):
            for _ in range(50):
                a, b = rng.getrandbits(many) - 2 ** many // 2, rng.getrandbits(many) - 2 ** many // 2
                self.assertEqual(plus_small(model.number(a), b), model.number(a + b))
                x = model.power(model.number(2 ** 400)) + model.number(a)
                expected = model.power(model.number(2 ** 400)) + model.number(a + b)
                self.assertEqual(plus_small(x, b), expected)


class BareTest(unittest.TestCase):
    def test_gap(self):
        for a in range(0, 60):
            for b in range(0, a + 1):
                self.assertEqual(gap(model.number(a), model.number(b)), a - b)
                above = model.power(GREAT)
                self.assertEqual(gap(above + model.number(a), above + model.number(b)), a - b)
        self.assertIsNone(gap(GREAT, model.number(7)))
        self.assertIsNone(gap(model.following(GREAT), model.number(7)))
        self.assertIsNone(gap(model.power(GREAT), GREAT))

    def test_gap_without_a_term_in_common(self):
        for many in (5, 20, 40, 70, 150, 300):
            upper, lower = halves(many)
            x, y = model.number(upper), model.number(lower)
            self.assertNotEqual(x[0], y[0])
            self.assertEqual(gap(x, y), 1)
            self.assertEqual(gap(model.power(GREAT) + x, model.power(GREAT) + y), 1)
            for sign in (1, -1):
                expected = model.power(y) if sign < 0 else model.total([(1, model.number(upper + 1)), (-1, y)])
                self.assertEqual(bare_sum([(1, x), (sign, y)]), expected)

    def test_sums_with_exponents_that_are_not_allowed(self):
        rng = random.Random(73)
        for many in (60, 120):
            for _ in range(20):
                base = rng.choice(halves(many))
                rows = [(rng.choice((1, -1)), base + rng.randrange(-4, 5)) for _ in range(6)]
                value = sum(sign << place for sign, place in [(sign, place - base + 4) for sign, place in rows])
                expected = tuple((sign, model.number(base - 4 + place)) for sign, place in model.places_of(value))
                self.assertEqual(bare_sum([(sign, model.number(place)) for sign, place in rows]), expected)

    def test_sums_of_many_terms(self):
        rng = random.Random(74)
        rows = [(rng.choice((1, -1)), rng.randrange(900)) for _ in range(3000)]
        value = sum(sign << place for sign, place in rows)
        self.assertEqual(bare_sum([(sign, model.number(place)) for sign, place in rows]), model.number(value))
        self.assertEqual(bare_sum([(1, GREAT)] * 3000), bare_shift(model.number(3000), GREAT))

    def test_order(self):
        rng = random.Random(75)
        rows = [model.random_number(rng, 5) for _ in range(40)]
        rows += [x[:at] for x in rows[:8] for at in range(len(x))]
        for x in rows:
            for y in rows:
                self.assertEqual(order(x, y), model.order(x, y))
                self.assertEqual(order(model.opposite(x), model.opposite(y)), model.order(y, x))

    def test_order_of_numbers_that_are_not_allowed(self):
        for many in (60, 200):
            upper, lower = halves(many)
            for base in ((), model.power(GREAT)):
                x, y = base + model.number(upper), base + model.number(lower)
                self.assertEqual([order(x, y), order(y, x), order(x, x)], [1, -1, 0])
                self.assertEqual([order(model.power(x), model.power(y)), order(model.power(y), model.power(x))], [1, -1])

    def test_plus(self):
        rng = random.Random(76)
        for _ in range(400):
            x, y = model.random_number(rng, 6), model.random_number(rng, 6)
            self.assertEqual(plus(x, y), model.plus(x, y))

    def test_plus_around_numbers_that_are_taken_as_integers(self):
        rng = random.Random(77)
        for place in (60, 64, 66, 500, 510, 512, 514, 600, 680, 1000, 1030):
            for _ in range(30):
                a, b = [sum(rng.choice((1, -1)) << abs(place + rng.randrange(-6, 7)) for _ in range(4)) for _ in range(2)]
                self.assertEqual(plus(model.number(a), model.number(b)), model.number(a + b))
                high = model.power(GREAT)
                self.assertEqual(plus(high + model.number(a), model.number(b)), high + model.number(a + b))
                expected = model.total([(1, model.following(GREAT))] + list(model.number(a + b)))
                self.assertEqual(plus(high + model.number(a), high + model.number(b)), expected)
                terms = list(model.number(a)) + [(-1, GREAT)] + list(model.number(b)) + [(1, GREAT)]
                self.assertEqual(bare_sum(terms), model.number(a + b))

    def test_plus_with_carries_into_the_terms_of_one_number_alone(self):
        for many in (1, 5, 40):
            long = model.number(2 * (4 ** many - 1) // 3)
            base = tuple((sign, model.plus(GREAT, place)) for sign, place in long)
            for value in (1, 2, -1, -2, 3):
                more = tuple((sign, model.plus(GREAT, place)) for sign, place in model.number(value))
                total = model.number(2 * (4 ** many - 1) // 3 + value)
                expected = tuple((sign, model.plus(GREAT, place)) for sign, place in total)
                self.assertEqual(plus(base, more), expected)
                self.assertEqual(plus(more, base), expected)
                self.assertEqual(plus(base + model.number(5), more), expected + model.number(5))

    def test_settled(self):
        rng = random.Random(78)
        for base in ((), GREAT):
            for _ in range(200):
                places = sorted(rng.sample(range(40), rng.randrange(1, 9)))
                row = [(rng.randrange(-5, 6), model.plus(base, model.number(place))) for place in places]
                value = sum(own << place for (own, _), place in zip(row, places))
                expected = tuple((sign, model.plus(base, model.number(place))) for sign, place in model.places_of(value))
                self.assertEqual(settled(row, len(row)), expected)

    def test_index_in(self):
        for base in ((), GREAT):
            for many in range(8):
                row = [(7, model.plus(base, model.number(2 * at + 1))) for at in range(many)]
                for place in range(2 * many + 2):
                    self.assertEqual(index_in(row, model.plus(base, model.number(place))), place // 2)


if __name__ == "__main__":
    unittest.main()
