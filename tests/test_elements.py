"""[5.1] to [5.3]: elements, their plain forms, products and inverses."""

import random
import unittest
from fractions import Fraction

import model

from sandreckoner.baum import UNIT, inverse_element, is_plain, multiply_elements, plain
from sandreckoner.errors import TooLarge
from sandreckoner.forms import check_number, height_of, of_int, size_of

import groups


def element(u, v, m):
    """The element with three integers."""
    return model.number(u), model.number(v), model.number(m)


def whole(x):
    """The three integers of an element."""
    return tuple(model.value_of(number) for number in x)


def at(integers, z):
    """What the function of an element takes a fraction to."""
    u, v, m = integers
    return Fraction(2) ** m * z + u * Fraction(2) ** v


def random_integers(rng):
    u = rng.choice((0, 1, -1, rng.randrange(-50, 51), 2 ** rng.randrange(20) * rng.randrange(-9, 10)))
    return u, rng.randrange(-30, 31), rng.choice((0, 0, rng.randrange(-20, 21)))


POINTS = [Fraction(0), Fraction(1), Fraction(-7, 3), Fraction(5, 1024)]


class PlainTest(unittest.TestCase):
    def test_is_plain(self):
        for integers, expected in (
            ((0, 0, 0), True), ((0, 0, 5), True), ((0, 0, -5), True), ((0, 1, 0), False), ((0, -1, 3), False),
            ((1, 0, 0), True), ((1, -9, 4), True), ((-1, 9, -4), True), ((3, 7, 0), True), ((-5, 0, 1), True),
            ((2, 0, 0), False), ((-2, 1, 1), False), ((6, -1, 0), False), ((96, 0, 0), False), ((1, 0, 2), True),
        ):
            with self.subTest(integers):
                self.assertIs(is_plain(element(*integers)), expected)

    def test_single_ones(self):
        for integers, expected in (
            ((0, 0, 0), (0, 0, 0)), ((0, 7, 2), (0, 0, 2)), ((0, -7, -2), (0, 0, -2)), ((1, 3, 0), (1, 3, 0)),
            ((8, 0, 1), (1, 3, 1)), ((8, -3, 1), (1, 0, 1)), ((-12, -1, 0), (-3, 1, 0)), ((6, -9, -9), (3, -8, -9)),
        ):
            with self.subTest(integers):
                self.assertEqual(plain(element(*integers)), element(*expected))

    def test_the_plain_form_is_plain_and_stands_for_the_same_function(self):
        rng = random.Random(1)
        for _ in range(500):
            integers = random_integers(rng)
            found = plain(element(*integers))
            self.assertTrue(is_plain(found))
            for number in found:
                check_number(number)
            for z in POINTS:
                self.assertEqual(at(whole(found), z), at(integers, z))
            self.assertEqual(plain(found), found)
            self.assertEqual(is_plain(element(*integers)), found == element(*integers))

    def test_equal_functions_have_one_plain_form(self):
        rng = random.Random(2)
        for _ in range(200):
            u, v, m = random_integers(rng)
            k = rng.randrange(20)
            self.assertEqual(plain(element(u, v, m)), plain(element(u << k, v - k, m)))

    def test_towers(self):
        tall = model.raised(model.number(5), 3)
        power = model.power(tall)
        self.assertEqual(plain((power, (), tall)), (of_int(1), tall, tall))
        self.assertEqual(plain((power, model.opposite(tall), ())), (of_int(1), (), ()))
        above = model.total([(1, model.plus(tall, model.number(3))), (-1, tall)])
        self.assertEqual(plain((above, tall, ())), (of_int(7), model.plus(tall, tall), ()))
        self.assertFalse(is_plain((power, (), ())))
        self.assertTrue(is_plain((model.plus(power, model.number(1)), power, model.opposite(power))))

    def test_the_argument_stays_as_it_was(self):
        given = element(12, 3, 4)
        plain(given)
        self.assertEqual(given, element(12, 3, 4))


class ProductTest(unittest.TestCase):
    def test_against_functions_of_fractions(self):
        rng = random.Random(3)
        for _ in range(800):
            first, second = random_integers(rng), random_integers(rng)
            found = multiply_elements(element(*first), element(*second))
            self.assertTrue(is_plain(found))
            self.assertIs(type(found), tuple)
            for number in found:
                check_number(number)
            for z in POINTS:
                self.assertEqual(at(whole(found), z), at(first, at(second, z)))

    def test_the_order_matters(self):
        adding, doubling = element(1, 0, 0), element(0, 0, 1)
        self.assertEqual(multiply_elements(adding, doubling), element(1, 0, 1))
        self.assertEqual(multiply_elements(doubling, adding), element(1, 1, 1))

    def test_any_two_are_multiplied_first(self):
        rng = random.Random(4)
        for _ in range(200):
            x, y, z = [element(*random_integers(rng)) for _ in range(3)]
            self.assertEqual(
                multiply_elements(multiply_elements(x, y), z), multiply_elements(x, multiply_elements(y, z))
            )

    def test_the_unit(self):
        rng = random.Random(5)
        self.assertEqual(UNIT, ((), (), ()))
        for _ in range(100):
            x = element(*random_integers(rng))
            self.assertEqual(multiply_elements(x, UNIT), plain(x))
            self.assertEqual(multiply_elements(UNIT, x), plain(x))

    def test_sums_that_cancel_out(self):
        self.assertEqual(multiply_elements(element(3, 5, 0), element(-3, 5, 0)), UNIT)
        self.assertEqual(multiply_elements(element(3, 5, 2), element(-3, 3, -2)), UNIT)
        self.assertEqual(multiply_elements(element(3, 5, 2), element(-3, 3, 1)), element(0, 0, 3))
        self.assertEqual(multiply_elements(element(1, -4, 0), element(1, -4, 0)), element(1, -3, 0))


class InverseTest(unittest.TestCase):
    def test_against_functions_of_fractions(self):
        rng = random.Random(6)
        for _ in range(500):
            integers = random_integers(rng)
            found = inverse_element(element(*integers))
            self.assertTrue(is_plain(found))
            for z in POINTS:
                self.assertEqual(at(whole(found), at(integers, z)), z)
                self.assertEqual(at(integers, at(whole(found), z)), z)

    def test_an_element_times_its_inverse_is_the_unit(self):
        rng = random.Random(7)
        for _ in range(300):
            x = element(*random_integers(rng))
            self.assertEqual(multiply_elements(x, inverse_element(x)), UNIT)
            self.assertEqual(multiply_elements(inverse_element(x), x), UNIT)
            self.assertEqual(inverse_element(inverse_element(x)), plain(x))

    def test_single_ones(self):
        self.assertEqual(inverse_element(UNIT), UNIT)
        self.assertEqual(inverse_element(element(0, 9, 4)), element(0, 0, -4))
        self.assertEqual(inverse_element(element(1, 0, 1)), element(-1, -1, -1))
        self.assertEqual(inverse_element(element(6, 1, 0)), element(-3, 2, 0))


def random_tall(rng):
    """An element with numbers that are far from each other."""
    return tuple(model.random_number(rng, 3) for _ in range(3))


class TallElementsTest(unittest.TestCase):
    """Elements with towers of twos, compared with what tests/groups.py makes of the model's numbers."""

    def as_model(self, x):
        u, v, m = x
        if model.order(v, ()) >= 0:
            return groups.shifted(u, v), (), m
        return u, model.opposite(v), m

    def expect(self, function, args, expected):
        if all(size_of(number) <= 300 and height_of(number) <= 40 for number in expected):
            self.assertEqual(function(*args), expected)
        else:
            with self.assertRaises(TooLarge):
                function(*args)

    def test_products_and_inverses(self):
        rng = random.Random(8)
        tall = groups.Tall()
        refused = 0
        for _ in range(250):
            x, y = random_tall(rng), random_tall(rng)
            expected = tall.plain(tall.product(self.as_model(x), self.as_model(y)))
            self.expect(multiply_elements, (x, y), expected)
            refused += any(size_of(number) > 300 for number in expected)
            self.expect(plain, (x,), tall.plain(self.as_model(x)))
        self.assertTrue(0 < refused < 250, refused)

    def test_inverses(self):
        rng = random.Random(9)
        for _ in range(250):
            x = random_tall(rng)
            try:
                inverse = inverse_element(x)
            except TooLarge:
                continue
            self.assertEqual(multiply_elements(x, inverse), UNIT)
            self.assertEqual(multiply_elements(inverse, x), UNIT)


class AllowedNumbersTest(unittest.TestCase):
    """[1.3] and the interface: TooLarge if a number of the result is not allowed, and not otherwise."""

    def setUp(self):
        self.great = model.of_size(300)
        self.top = model.raised((), 40)
        check_number(self.great)
        check_number(self.top)

    def test_bounds_are_reached(self):
        self.assertEqual(plain(((), (), self.great)), ((), (), self.great))
        self.assertEqual(plain(((), self.great, self.top)), ((), (), self.top))
        x = (of_int(1), self.great, self.top)
        self.assertEqual(plain(x), x)
        self.assertEqual(multiply_elements(x, UNIT), x)
        self.assertEqual(multiply_elements(UNIT, x), x)

    def test_too_large_in_each_number(self):
        one = of_int(1)
        # m: the sum of both.
        with self.assertRaises(TooLarge):
            multiply_elements(((), (), self.great), ((), (), one))
        # v: the place of the lowest digit of u is added.
        with self.assertRaises(TooLarge):
            plain((of_int(2), self.great, ()))
        # u: a sum of two numbers.
        with self.assertRaises(TooLarge):
            multiply_elements((self.great, (), ()), (one, (), ()))
        with self.assertRaises(TooLarge):
            inverse_element((one, self.great, one))

    def test_what_comes_up_on_the_way_does_not_matter(self):
        # v + m of the second one is not allowed, and is not part of the result.
        one = of_int(1)
        other = model.opposite(self.great)
        with self.assertRaises(TooLarge):
            multiply_elements(((), (), one), (one, self.great, ()))
        self.assertEqual(multiply_elements(((), (), one), ((), self.great, one)), ((), (), of_int(2)))
        # u * 2 ** v is not allowed, and the sum of both is.
        x = (self.great, one, ())
        self.assertEqual(multiply_elements(x, (other, one, ())), UNIT)
        above = (model.plus(self.great, one), (), ())
        with self.assertRaises(TooLarge):
            plain(above)
        self.assertEqual(multiply_elements(above, (other, (), ())), (one, (), ()))
        # A number that is not allowed any more when its digits are moved down to be odd.
        low = model.power(self.top[0][1])
        self.assertEqual(plain((low, model.opposite(self.top[0][1]), ())), (one, (), ()))
        # The inverse: v - m is allowed, although -m and v are as great as can be.
        self.assertEqual(inverse_element((one, self.great, self.great)), (of_int(-1), (), other))

    def test_height(self):
        one = of_int(1)
        self.assertEqual(height_of(self.top), 40)
        below = self.top[0][1]
        self.assertEqual(plain((self.top, (), ())), (one, below, ()))
        # 2 ** top is not allowed, but the exponent of u * 2 ** v may be greater than top.
        self.assertEqual(multiply_elements(((), (), self.top), (one, (), ())), (one, self.top, self.top))
        self.assertEqual(
            multiply_elements(((), (), self.top), (self.top, (), one)),
            (one, model.plus(self.top, below), model.plus(self.top, one)),
        )
        with self.assertRaises(TooLarge):
            multiply_elements((one, self.top, ()), (one, (), ()))


if __name__ == "__main__":
    unittest.main()
