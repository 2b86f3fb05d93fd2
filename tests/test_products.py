"""[1.5] products and shifts, and the heading sandreckoner/products.py."""

import random
import unittest

import model
from sandreckoner.errors import BadRange, TooLarge
from sandreckoner.products import multiply, shift

ONE = model.number(1)
GREAT = model.raised(model.number(100), 2)
PLACES = [
    (),
    ONE,
    model.number(-1),
    model.number(2 ** 70),
    GREAT,
    model.opposite(GREAT),
    model.plus(GREAT, model.number(-3)),
    model.raised((), 40),
    model.opposite(model.of_size(300)),
    model.of_size(300),
]


def shifted(x, places):
    """The terms of x with other exponents, allowed or not."""
    return tuple((sign, model.plus(exponent, places)) for sign, exponent in x)


class ProductsCase(unittest.TestCase):
    def same(self, run, expected):
        if model.is_allowed(expected):
            self.assertEqual(run(), expected)
        else:
            with self.assertRaises(TooLarge):
                run()


class ShiftTest(ProductsCase):
    def test_integers(self):
        for value in range(-80, 81):
            for places in range(-8, 9):
                x, y = model.number(value), model.number(places)
                if places >= 0:
                    self.assertEqual(shift(x, y), model.number(value * 2 ** places))
                elif value % 2 ** -places == 0:
                    self.assertEqual(shift(x, y), model.number(value // 2 ** -places))
                else:
                    with self.assertRaises(BadRange):
                        shift(x, y)

    def test_dense_and_sparse_integers(self):
        rng = random.Random(31)
        for _ in range(200):
            value, places = model.random_integer(rng), rng.randrange(300)
            if model.is_allowed(model.number(value)):
                up = model.number(value * 2 ** places)
                self.same(lambda: shift(model.number(value), model.number(places)), up)
                if model.is_allowed(up):
                    self.assertEqual(shift(up, model.number(-places)), model.number(value))

    def test_zero(self):
        for places in PLACES:
            self.assertEqual(shift((), places), ())

    def test_by_zero(self):
        rng = random.Random(32)
        for _ in range(50):
            x = model.random_number(rng, 8)
            self.assertEqual(shift(x, ()), x)

    def test_great_places(self):
        self.assertEqual(shift(ONE, GREAT), model.power(GREAT))
        self.assertEqual(shift(model.number(-1), GREAT), model.opposite(model.power(GREAT)))
        self.assertEqual(shift(model.number(3), GREAT), ((1, model.plus(GREAT, model.number(2))), (-1, GREAT)))
        self.assertEqual(shift(model.power(GREAT), GREAT), model.power(model.plus(GREAT, GREAT)))
        self.assertEqual(shift(model.power(GREAT), model.opposite(GREAT)), ONE)

    def test_there_and_back(self):
        rng = random.Random(33)
        for _ in range(200):
            x, places = model.random_number(rng, 4), model.random_number(rng, 4)
            if model.order(places, ()) < 0:
                places = model.opposite(places)
            up = shifted(x, places)
            self.assertTrue(model.has_form(up))
            self.same(lambda: shift(x, places), up)
            if model.is_allowed(up):
                self.assertEqual(shift(up, model.opposite(places)), x)

    def test_least_exponent_becomes_0_and_just_not(self):
        for exponent in (model.number(5), model.number(2 ** 80), GREAT, model.plus(GREAT, model.number(-3))):
            for x in (
                model.power(exponent),
                ((-1, model.plus(exponent, model.number(2))), (1, exponent)),
                ((1, model.plus(GREAT, exponent)), (-1, exponent)),
            ):
                self.assertEqual(
                    shift(x, model.opposite(exponent)), shifted(x, model.opposite(exponent))
                )
                self.assertEqual(shift(x, model.opposite(exponent))[-1][1], ())
                for more in (1, 2, 9):
                    with self.assertRaises(BadRange):
                        shift(x, model.opposite(model.plus(exponent, model.number(more))))

    def test_far_below_0(self):
        for places in (model.opposite(GREAT), model.opposite(model.of_size(300)), model.opposite(model.raised((), 40))):
            for x in (ONE, model.number(-12), model.power(model.number(2 ** 70))):
                with self.assertRaises(BadRange):
                    shift(x, places)

    def test_results_just_allowed_and_just_not(self):
        self.assertEqual(shift(ONE, model.of_size(299)), model.power(model.of_size(299)))
        with self.assertRaises(TooLarge):
            shift(ONE, model.of_size(300))
        self.assertEqual(shift(ONE, model.raised((), 39)), model.raised((), 40))
        with self.assertRaises(TooLarge):
            shift(ONE, model.raised((), 40))
        x = model.power(model.of_size(298))
        self.assertEqual(shift(x, ONE), model.power(model.of_size(298) + ((1, ()),)))
        with self.assertRaises(TooLarge):
            shift(model.power(model.of_size(299)), ONE)
        with self.assertRaises(TooLarge):
            shift(((1, model.of_size(200)), (1, ())), model.of_size(120))

    def test_bad_range_comes_before_too_large(self):
        x = model.power(model.of_size(200)) + ((1, ()),)
        with self.assertRaises(BadRange):
            shift(x, model.opposite(model.plus(model.power(model.number(77)), model.power(model.number(55)))))
        with self.assertRaises(BadRange):
            shift(x, model.opposite(model.power(model.number(3 ** 40))))

    def test_arguments_stay(self):
        x, places = model.plus(GREAT, ONE), model.plus(GREAT, model.number(-7))
        kept = repr((x, places))
        shift(x, places)
        multiply(x, places)
        self.assertEqual(repr((x, places)), kept)


class MultiplyTest(ProductsCase):
    def test_integers(self):
        for a in range(-40, 41):
            for b in range(-40, 41):
                self.assertEqual(multiply(model.number(a), model.number(b)), model.number(a * b))

    def test_dense_and_sparse_integers(self):
        rng = random.Random(34)
        for _ in range(300):
            a, b = model.random_integer(rng), model.random_integer(rng)
            x, y = model.number(a), model.number(b)
            if model.is_allowed(x) and model.is_allowed(y) and len(x) * len(y) <= 400:
                self.same(lambda: multiply(x, y), model.number(a * b))
                self.same(lambda: multiply(y, x), model.number(a * b))

    def test_great_numbers(self):
        rng = random.Random(35)
        for _ in range(200):
            x, y = model.random_number(rng, 4), model.random_number(rng, 4)
            product = model.times(x, y)
            self.same(lambda: multiply(x, y), product)
            self.same(lambda: multiply(y, x), product)

    def test_by_hand(self):
        x = model.plus(model.power(GREAT), ONE)
        y = model.plus(model.power(GREAT), model.number(-1))
        double = model.plus(GREAT, GREAT)
        self.assertEqual(multiply(x, y), ((1, double), (-1, ())))
        self.assertEqual(multiply(x, x), ((1, double), (1, model.following(GREAT)), (1, ())))
        for other in (x, (), ONE, model.of_size(300), model.raised((), 40)):
            self.assertEqual(multiply(other, ()), ())
            self.assertEqual(multiply((), other), ())
            self.assertEqual(multiply(other, ONE), other)
            self.assertEqual(multiply(model.number(-1), other), model.opposite(other))

    def test_400_products_of_terms(self):
        twenty = sum(4 ** place for place in range(20))
        for sign in (1, -1):
            x, y = model.number(twenty), model.number(sign * twenty)
            self.assertEqual(len(x) * len(y), 400)
            self.assertEqual(multiply(x, y), model.number(sign * twenty * twenty))

    def test_more_than_400_products_of_terms(self):
        x = model.number(sum(4 ** place for place in range(20)))
        y = model.number(sum(4 ** place for place in range(21)))
        self.assertEqual(len(x) * len(y), 420)
        for first, second in ((x, y), (y, x), (y, y)):
            with self.assertRaises(TooLarge):
                multiply(first, second)

    def test_more_than_400_products_of_terms_though_the_product_is_short(self):
        a, b = 32032215596496435569, 5439042183600204290159
        x, y = model.number(a), model.number(b)
        self.assertTrue(model.is_allowed(x) and model.is_allowed(y))
        self.assertEqual(model.number(a * b), ((1, model.number(137)), (-1, ())))
        self.assertEqual(len(x) * len(y), 528)
        for first, second in ((x, y), (y, x), (model.opposite(x), y)):
            with self.assertRaises(TooLarge):
                multiply(first, second)

    def test_results_just_allowed_and_just_not(self):
        exponent = model.of_size(298)
        x = model.power(exponent)
        self.assertEqual(multiply(x, model.number(2)), model.power(exponent + ((1, ()),)))
        self.assertEqual(multiply(model.power(model.of_size(200)), ONE), model.power(model.of_size(200)))
        with self.assertRaises(TooLarge):
            multiply(model.power(model.of_size(299)), model.number(2))
        with self.assertRaises(TooLarge):
            multiply(x, model.number(3))

    def test_what_comes_up_on_the_way(self):
        big = model.plus(model.of_size(90), model.power(model.number(2 ** 250)))
        near = model.of_size(100)
        x = model.plus(model.power(big), model.power(near))
        y = model.plus(model.power(big), model.opposite(model.power(near)))
        products = model.size(model.plus(big, big)) + model.size(model.plus(near, near)) + 1
        self.assertLessEqual(products, 300)
        self.assertGreater(products + 2 * model.size(model.plus(big, near)), 300)
        expected = ((1, model.plus(big, big)), (-1, model.plus(near, near)))
        self.assertEqual(multiply(x, y), expected)
        self.assertEqual(multiply(y, x), expected)


if __name__ == "__main__":
    unittest.main()
