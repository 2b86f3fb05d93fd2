"""[1.2], [1.3], [1.4] and the heading sandreckoner/forms.py."""

import random
import unittest

import model
from sandreckoner.errors import NotAllowed, TooLarge
from sandreckoner.forms import check_number, compare, height_of, of_int, sign_of, size_of, to_int

ONE = ((1, ()),)
GREAT = model.raised(model.number(100), 2)


def dense_of_size(wanted):
    """An integer whose number has this size."""
    rng = random.Random(wanted)
    while True:
        value = rng.getrandbits(rng.randrange(70, 110))
        if model.size(model.number(value)) == wanted:
            return value


def changed_signs(x):
    """The tuples that are x but for one sign, at the top or within."""
    for at, (sign, exponent) in enumerate(x):
        for other in (0, 2, -2, 3, 10 ** 30, -sign):
            yield x[:at] + ((other, exponent),) + x[at + 1:]
        for inner in changed_signs(exponent):
            yield x[:at] + ((sign, inner),) + x[at + 1:]


def changed_rows(x):
    """The tuples that are x but for the terms in one place, at the top or within: exchanged, doubled, joined."""
    for at, (sign, exponent) in enumerate(x):
        if at > 0:
            yield x[:at - 1] + (x[at], x[at - 1]) + x[at + 1:]
        beside = [(sign, exponent), (-sign, exponent), (sign, model.following(exponent)), (-sign, model.number(-3))]
        if exponent:
            beside.append((-sign, model.preceding(exponent)))
        for term in beside:
            yield x[:at] + (term,) + x[at:]
            yield x[:at + 1] + (term,) + x[at + 1:]
        for inner in changed_rows(exponent):
            yield x[:at] + ((sign, inner),) + x[at + 1:]


SAMPLES = [model.number(value) for value in (1, -2, 3, 6, -11, 43, 1000, 2 ** 70 + 5)] + [
    GREAT,
    model.plus(GREAT, model.number(-3)),
    model.power(model.plus(model.power(model.number(100)), model.number(-5))),
    model.plus(model.plus(GREAT, GREAT), model.power(model.plus(model.number(2 ** 99), model.number(-1)))),
    model.raised(model.number(5), 12),
]


class CheckTest(unittest.TestCase):
    def refuse(self, x):
        with self.assertRaises(NotAllowed):
            check_number(x)

    def agree(self, x):
        if model.is_allowed(x):
            self.assertIsNone(check_number(x))
        else:
            self.refuse(x)

    def test_numbers(self):
        for value in range(-300, 301):
            self.assertIsNone(check_number(model.number(value)))
        for x in SAMPLES:
            self.assertIsNone(check_number(x))
            self.assertIsNone(check_number(model.opposite(x)))

    def test_random_numbers(self):
        rng = random.Random(11)
        for _ in range(300):
            self.assertIsNone(check_number(model.random_number(rng, 8)))

    def test_signs(self):
        for x in SAMPLES:
            for other in changed_signs(x):
                self.agree(other)

    def test_wrong_signs_by_hand(self):
        for sign in (0, 2, -2, 3, 100):
            self.refuse(((sign, ()),))
            self.refuse(((1, ((sign, ()),)),))
            self.refuse(((1, ONE), (sign, ())))
            self.refuse(((1, ((1, ((sign, ()),)),)),))

    def test_rows(self):
        for x in SAMPLES:
            for other in changed_rows(x):
                self.agree(other)

    def test_wrong_rows_by_hand(self):
        two = model.number(2)
        for row in [
            ((1, ()), (1, two)),
            ((1, two), (1, two)),
            ((1, two), (-1, two)),
            ((1, two), (1, ONE)),
            ((1, ONE), (-1, ())),
            ((1, GREAT), (1, GREAT)),
            ((1, model.following(GREAT)), (1, GREAT)),
            ((1, GREAT), (-1, model.preceding(GREAT))),
            ((1, model.preceding(GREAT)), (1, GREAT)),
            ((1, model.number(8)), (1, model.number(7))),
            ((1, model.number(-1)),),
            ((1, GREAT), (1, model.number(-4))),
            ((1, model.opposite(GREAT)),),
        ]:
            self.refuse(row)
            self.refuse(((1, row),))
            self.refuse(((1, ((-1, row),)),))
            self.refuse(((1, ((1, row),)),))
            self.refuse(((1, model.raised(ONE, 20)), (1, row)))

    def test_neighbours_that_have_no_term_in_common(self):
        upper = model.number(0b101010101010101010101)
        lower = model.number(0b101010101010101010100)
        self.refuse(((1, upper), (1, lower)))
        upper, lower = model.number(0b1010101011), model.number(0b1010101010)
        self.assertNotEqual(upper[0], lower[0])
        self.refuse(((1, upper), (1, lower)))
        self.assertIsNone(check_number(((1, model.following(upper)), (1, lower))))

    def test_exponents_two_apart(self):
        for value in range(70):
            self.assertIsNone(check_number(((1, model.number(value + 2)), (-1, model.number(value)))))
            self.refuse(((1, model.number(value + 1)), (-1, model.number(value))))
        self.assertIsNone(check_number(((1, model.following(model.following(GREAT))), (1, GREAT))))

    def test_size(self):
        for x in (model.of_size(300), model.number(dense_of_size(300)), model.power(model.of_size(299))):
            self.assertIsNone(check_number(x))
        for x in (model.of_size(301), model.number(dense_of_size(301)), model.power(model.of_size(300))):
            self.refuse(x)

    def test_height(self):
        self.assertIsNone(check_number(model.raised((), 40)))
        self.refuse(model.raised((), 41))
        self.assertIsNone(check_number(((-1, model.raised((), 39)), (1, ()))))
        self.refuse(((-1, model.raised((), 40)), (1, ())))

    def test_long_arguments(self):
        self.refuse(((1, ()),) * 100000)
        self.refuse(((1, ()),) + ((0, ()),) * 99999)
        self.refuse(((1, ((1, ()),) * 999),) * 100)
        self.refuse(tuple((1, model.number(place)) for place in range(9998, -2, -2)))

    def test_deep_arguments(self):
        self.refuse(model.raised((), 199))
        self.refuse(model.raised((), 200))
        self.refuse(model.raised(((-1, ()),), 199))
        self.refuse(model.raised(((5, ()),), 190))
        self.refuse(model.raised(((1, ()),) * 90000, 150))
        self.refuse(((1, model.raised((), 199)),) * 2)
        wide = ()
        for _ in range(200):
            wide = ((1, wide),) + ((1, ()),) * 400
        self.refuse(wide)


class SizeTest(unittest.TestCase):
    def test_by_hand(self):
        for x, size, height in [
            ((), 1, 0),
            (ONE, 2, 1),
            (model.number(2), 3, 2),
            (model.number(3), 5, 3),
            (model.number(-4), 4, 3),
            (model.number(16), 5, 4),
            (model.raised((), 40), 41, 40),
            (((1, GREAT), (-1, GREAT)), 1 + 2 * model.size(GREAT), 1 + model.height(GREAT)),
        ]:
            self.assertEqual(size_of(x), size)
            self.assertEqual(height_of(x), height)

    def test_height_of_integers(self):
        for least, height in [(1, 1), (2, 2), (3, 3), (6, 4), (43, 5)]:
            self.assertEqual(height_of(model.number(least)), height)
            self.assertEqual(height_of(model.number(-least)), height)
            self.assertEqual(height_of(model.number(least - 1)), height - 1)

    def test_random_numbers(self):
        rng = random.Random(12)
        for _ in range(200):
            x = model.random_number(rng, 8)
            self.assertEqual(size_of(x), model.size(x))
            self.assertEqual(height_of(x), model.height(x))


class IntegersTest(unittest.TestCase):
    def test_small_integers(self):
        for value in range(-3000, 3001):
            x = of_int(value)
            self.assertEqual(x, model.number(value))
            self.assertEqual(to_int(x), value)

    def test_dense_and_sparse_integers(self):
        rng = random.Random(13)
        for _ in range(300):
            value = model.random_integer(rng)
            if model.is_allowed(model.number(value)):
                self.assertEqual(of_int(value), model.number(value))
            if abs(value) < 2 ** 64:
                self.assertEqual(to_int(model.number(value)), value)

    def test_results_are_numbers(self):
        rng = random.Random(14)
        for _ in range(100):
            value = rng.getrandbits(60)
            self.assertTrue(model.is_allowed(of_int(value)))

    def test_around_64_digits(self):
        for value in (2 ** 63, 2 ** 64 - 1, 2 ** 64 - 2, 2 ** 64 - 2 ** 62, 2 ** 63 + 1, 0xAAAAAAAA << 32):
            for turned in (value, -value):
                self.assertEqual(to_int(of_int(turned)), turned)
        for value in (2 ** 64, 2 ** 64 + 1, 2 ** 65 - 2 ** 62, 2 ** 65, 2 ** 66 - 1, 2 ** 200):
            for turned in (value, -value):
                self.assertEqual(of_int(turned), model.number(turned))
                with self.assertRaises(NotAllowed):
                    to_int(of_int(turned))

    def test_great_numbers_are_no_integers(self):
        for x in SAMPLES[8:] + [model.raised((), 40), model.of_size(300)]:
            with self.assertRaises(NotAllowed):
                to_int(x)
            with self.assertRaises(NotAllowed):
                to_int(model.opposite(x))

    def test_around_2900_digits(self):
        for value in (2 ** 2899, 2 ** 2900 - 1, 2 ** 2899 + 2 ** 1000 - 7):
            self.assertEqual(of_int(value), model.number(value))
            self.assertEqual(of_int(-value), model.number(-value))
        for value in (2 ** 2900, 2 ** 2900 + 1, 2 ** 2901 - 1, 2 ** 5000):
            for turned in (value, -value):
                with self.assertRaises(NotAllowed):
                    of_int(turned)

    def test_size_of_the_result(self):
        value = dense_of_size(300)
        self.assertEqual(of_int(value), model.number(value))
        self.assertEqual(of_int(-value), model.number(-value))
        for value in (dense_of_size(301), 4 ** 1449 // 3, 4 ** 1450 // 3):
            for turned in (value, -value):
                with self.assertRaises(TooLarge):
                    of_int(turned)

    def test_too_long_comes_before_too_large(self):
        with self.assertRaises(NotAllowed):
            of_int(4 ** 1451 // 3)
        with self.assertRaises(NotAllowed):
            of_int(-(4 ** 1451 // 3))


def ascending():
    """Great numbers in ascending order."""
    half = model.power(model.plus(model.number(2 ** 100), model.number(-1)))
    double = model.power(model.plus(model.number(2 ** 100), model.number(1)))
    rows = [()]
    for value in (1, 2, 3, 2 ** 64, 2 ** 100):
        rows.append(model.number(value))
    for x in (half, GREAT, model.plus(GREAT, half), double, model.plus(double, GREAT), model.raised(GREAT, 1)):
        rows.append(model.plus(x, model.opposite(model.number(2 ** 80))))
        rows += [model.plus(x, model.number(value)) for value in (-2, -1, 0, 1, 5)]
        rows.append(model.plus(x, model.number(2 ** 80)))
    rows.append(model.plus(model.raised(GREAT, 2), model.opposite(model.raised(GREAT, 1))))
    rows += [model.raised(GREAT, 2), model.raised(model.plus(GREAT, ONE), 2), model.raised((), 40)]
    return [model.opposite(x) for x in rows[:0:-1]] + rows


class OrderTest(unittest.TestCase):
    def test_integers(self):
        rows = [(value, model.number(value)) for value in range(-50, 51)]
        for a, x in rows:
            self.assertEqual(sign_of(x), (a > 0) - (a < 0))
            for b, y in rows:
                self.assertEqual(compare(x, y), (a > b) - (a < b))

    def test_dense_and_sparse_integers(self):
        rng = random.Random(15)
        rows = [model.random_integer(rng) for _ in range(60)]
        for a in rows:
            for b in rows:
                self.assertEqual(compare(model.number(a), model.number(b)), (a > b) - (a < b))

    def test_great_numbers(self):
        rows = ascending()
        for at, x in enumerate(rows):
            self.assertEqual(sign_of(x), (at > len(rows) // 2) - (at < len(rows) // 2))
            for place, y in enumerate(rows):
                self.assertEqual(compare(x, y), (at > place) - (at < place), (at, place))

    def test_one_term_more(self):
        for x in SAMPLES:
            x = tuple((sign, model.plus(exponent, model.number(9))) for sign, exponent in x)
            more, less = x + ((1, ONE),), x + ((-1, ONE),)
            self.assertEqual([compare(more, x), compare(x, more)], [1, -1])
            self.assertEqual([compare(less, x), compare(x, less)], [-1, 1])
            self.assertEqual([compare(more, less), compare(less, more)], [1, -1])

    def test_negative_terms_with_other_exponents(self):
        for x in SAMPLES:
            x = tuple((sign, model.plus(exponent, model.number(90))) for sign, exponent in x)
            far, near = x + ((-1, model.number(7)),), x + ((-1, model.number(3)),)
            self.assertEqual([compare(far, near), compare(near, far)], [-1, 1])

    def test_random_numbers(self):
        rng = random.Random(16)
        rows = [model.random_number(rng, 5) for _ in range(40)]
        for x in rows:
            for y in rows:
                self.assertEqual(compare(x, y), model.order(x, y))
                self.assertEqual(compare(model.opposite(x), model.opposite(y)), model.order(y, x))


if __name__ == "__main__":
    unittest.main()
