"""[2.2] to [2.6], [2.9], [2.10] and the heading sandreckoner/digits.py."""

import random
import time
import unittest

import model
from sandreckoner.digits import digit_at, digits_from, floor_shift, length, low
from sandreckoner.errors import Missing, NotAllowed, TooLarge

ZERO = ()
ONE = model.number(1)
GREAT = model.raised(model.number(100), 2)
NEGATIVE = [model.number(-1), model.number(-2), model.opposite(GREAT), model.opposite(model.raised((), 40))]


def above(base, value):
    """value * 2 ** base, where base has no exponents near those of small integers."""
    return tuple((sign, model.plus(base, model.number(place))) for sign, place in model.places_of(value))


def integers(rng, many):
    """Random integers whose numbers are allowed, sparse ones of up to 2900 digits among them."""
    found = []
    while len(found) < many:
        value = model.random_integer(rng)
        if rng.randrange(3) == 0:
            value = sum(rng.choice((1, -1)) << rng.randrange(2899) for _ in range(8))
        if model.is_allowed(model.number(value)):
            found.append(value)
    return found


def places_for(rng, value):
    """Places of all kinds for an integer: those of its terms and beside them, others within, and others behind."""
    places = [0, 1, 2, 3, value.bit_length(), value.bit_length() + 1, rng.randrange(3000), rng.randrange(70)]
    for _, place in model.places_of(value):
        places += [max(place - 1, 0), place, place + 1]
    return places


class FloorShiftTest(unittest.TestCase):
    def test_integers(self):
        for value in range(-130, 131):
            for y in range(11):
                self.assertEqual(floor_shift(model.number(value), model.number(y)), model.number(value >> y))

    def test_dense_and_sparse_integers(self):
        rng = random.Random(61)
        for value in integers(rng, 100):
            for y in places_for(rng, value):
                expected = model.number(value >> y)
                if model.is_allowed(expected):
                    self.assertEqual(floor_shift(model.number(value), model.number(y)), expected)
                else:
                    with self.assertRaises(TooLarge):
                        floor_shift(model.number(value), model.number(y))

    def test_great_numbers_by_hand(self):
        power = model.power
        x = model.plus(power(GREAT), model.number(-1))
        self.assertEqual(floor_shift(x, ONE), model.plus(power(model.preceding(GREAT)), model.number(-1)))
        self.assertEqual(floor_shift(x, model.preceding(GREAT)), ONE)
        self.assertEqual(floor_shift(x, GREAT), ZERO)
        self.assertEqual(floor_shift(power(GREAT), GREAT), ONE)
        self.assertEqual(floor_shift(power(GREAT), model.following(GREAT)), ZERO)
        self.assertEqual(floor_shift(power(GREAT), model.number(7)), power(model.plus(GREAT, model.number(-7))))
        self.assertEqual(floor_shift(model.opposite(power(GREAT)), model.following(GREAT)), model.number(-1))
        self.assertEqual(floor_shift(model.opposite(x), GREAT), model.number(-1))
        self.assertEqual(floor_shift(model.number(5), GREAT), ZERO)
        self.assertEqual(floor_shift(model.number(-5), GREAT), model.number(-1))

    def test_parts_of_great_numbers(self):
        rng = random.Random(62)
        for base in (GREAT, model.power(GREAT), model.number(2 ** 600)):
            for _ in range(60):
                a, b, y = rng.randrange(-300, 300), rng.randrange(-300, 300), rng.randrange(12)
                x = above(base, a) + model.number(b)
                less = -1 if b < 0 else 0
                self.assertEqual(floor_shift(x, base), model.number(a + less))
                place = model.plus(base, model.number(y))
                self.assertEqual(floor_shift(x, place), model.number(a + less >> y))
                lower = model.plus(base, model.number(-y))
                self.assertEqual(floor_shift(x, lower), model.number((a << y) + less))

    def test_great_numbers_against_the_model(self):
        rng = random.Random(63)
        for _ in range(200):
            x, y = model.random_number(rng, 5), model.random_exponent(rng)
            rest = model.total([term for term in x if model.order(term[1], y) < 0])
            whole = model.total(
                [(sign, model.plus(e, model.opposite(y))) for sign, e in x if model.order(e, y) >= 0]
                + ([(-1, ())] if model.order(rest, ()) < 0 else [])
            )
            if model.is_allowed(whole):
                self.assertEqual(floor_shift(x, y), whole)
            else:
                with self.assertRaises(TooLarge):
                    floor_shift(x, y)

    def test_zero(self):
        for y in (ZERO, ONE, GREAT, model.raised((), 40), model.of_size(300)):
            self.assertEqual(floor_shift(ZERO, y), ZERO)
        for x in (ONE, GREAT, model.raised((), 40), model.opposite(model.of_size(300))):
            self.assertEqual(floor_shift(x, ZERO), x)

    def test_negative_places(self):
        for y in NEGATIVE:
            for x in (ZERO, ONE, GREAT, model.opposite(model.raised((), 40))):
                with self.assertRaises(NotAllowed):
                    floor_shift(x, y)

    def test_results_just_allowed_and_just_not(self):
        upper = model.of_size(298)
        self.assertEqual(floor_shift(model.power(upper), ONE), model.power(upper + ((-1, ()),)))
        upper = model.of_size(299)
        with self.assertRaises(TooLarge):
            floor_shift(model.power(upper), ONE)
        upper = model.of_size(297)
        self.assertEqual(floor_shift(((1, upper), (-1, ())), ONE), ((1, upper + ((-1, ()),)), (-1, ())))
        upper = model.of_size(298)
        with self.assertRaises(TooLarge):
            floor_shift(((1, upper), (-1, ())), ONE)


class DigitsTest(unittest.TestCase):
    def test_integers(self):
        for value in range(-130, 131):
            for place in range(11):
                self.assertEqual(digit_at(model.number(value), model.number(place)), value >> place & 1)
                expected = [value >> at & 1 for at in range(place, place + 9)]
                self.assertEqual(digits_from(model.number(value), model.number(place), 9), expected)

    def test_dense_and_sparse_integers(self):
        rng = random.Random(64)
        for value in integers(rng, 100):
            x = model.number(value)
            for place in places_for(rng, value):
                self.assertEqual(digit_at(x, model.number(place)), value >> place & 1)
                count = rng.choice((0, 1, 2, 30, 63, 64))
                expected = [value >> at & 1 for at in range(place, place + count)]
                self.assertEqual(digits_from(x, model.number(place), count), expected)

    def test_parts_of_great_numbers(self):
        rng = random.Random(65)
        for base in (GREAT, model.power(GREAT), model.raised(GREAT, 2)):
            for _ in range(40):
                a, b = rng.randrange(-300, 300), rng.randrange(-300, 300)
                x = above(base, a) + model.number(b)
                less = -1 if b < 0 else 0
                for place in range(-3, 12):
                    y = model.plus(base, model.number(place))
                    stretch = (a << 3) + less
                    expected = [stretch >> place + 3 + at & 1 for at in range(20)]
                    self.assertEqual(digit_at(x, y), expected[0])
                    self.assertEqual(digits_from(x, y, 20), expected)
                for place in range(12):
                    self.assertEqual(digit_at(x, model.number(place)), b >> place & 1)
                    expected = [b >> place + at & 1 for at in range(64)]
                    self.assertEqual(digits_from(x, model.number(place), 64), expected)

    def test_at_and_beside_the_exponents(self):
        power = model.power
        before, behind = model.preceding(GREAT), model.following(GREAT)
        far = model.raised(GREAT, 1)
        for x, expected in [
            (power(GREAT), [0, 0, 1, 0]),
            (model.opposite(power(GREAT)), [0, 0, 1, 1]),
            (model.plus(power(GREAT), model.number(-1)), [1, 1, 0, 0]),
            (model.plus(power(GREAT), ONE), [0, 0, 1, 0]),
            (model.opposite(model.plus(power(GREAT), ONE)), [1, 1, 0, 1]),
            (model.plus(model.opposite(power(GREAT)), ONE), [0, 0, 1, 1]),
            (model.plus(power(far), power(GREAT)), [0, 0, 1, 0]),
            (model.plus(power(far), model.opposite(power(GREAT))), [0, 0, 1, 1]),
            (model.opposite(power(far)), [0, 0, 0, 0]),
        ]:
            self.assertEqual([digit_at(x, place) for place in (ONE, before, GREAT, behind)], expected, x)
            self.assertEqual(digits_from(x, before, 3), expected[1:])

    def test_digits_at_great_places_by_hand(self):
        self.assertEqual(digits_from(model.power(GREAT), model.plus(GREAT, model.number(-63)), 64), [0] * 63 + [1])
        self.assertEqual(digits_from(model.power(GREAT), model.plus(GREAT, model.number(-64)), 64), [0] * 64)
        self.assertEqual(digits_from(model.power(GREAT), model.plus(GREAT, model.number(-64)), 63), [0] * 63)
        self.assertEqual(digits_from(model.number(-1), model.raised((), 40), 64), [1] * 64)
        self.assertEqual(digits_from(model.raised((), 40), model.raised((), 39), 2), [1, 0])

    def test_sum_of_the_digits(self):
        for value in range(-70, 71):
            for many in range(value.bit_length(), 10):
                digits = digits_from(model.number(value), ZERO, many)
                total = sum(digit << at for at, digit in enumerate(digits))
                self.assertEqual(total - (2 ** many if value < 0 else 0), value)

    def test_floors_that_are_not_allowed(self):
        middle = model.total([(1, model.number(5 ** power)) for power in (6, 7, 8)])
        far = model.of_size(298 - model.size(middle) + 20)
        self.check_without_floor(middle, [
            (model.power(far), [0] * 64),
            (model.opposite(model.power(far)), [0] * 64),
            (((1, far), (1, ())), [0] * 64),
            (((1, far), (-1, ())), [1] * 64),
            (((-1, far), (-1, ())), [1] * 64),
        ])

    def test_floors_that_are_not_allowed_of_numbers_with_a_term_at_the_place(self):
        # In far - place the least terms, -1 and -2, become -4 and 1, which takes more.
        middle = model.total([(1, model.number(5 ** power)) for power in (6, 7, 8)]) + ((1, ONE),)
        far = model.of_size(298 - model.size(middle)) + ((-1, ()),)
        self.check_without_floor(middle, [
            (((1, far), (1, middle)), [1] + [0] * 63),
            (((1, far), (-1, middle)), [1] * 64),
            (((-1, far), (1, middle)), [1] + [0] * 63),
            (((-1, far), (-1, middle)), [1] * 64),
        ])

    def check_without_floor(self, place, rows):
        for x, digits in rows:
            self.assertTrue(model.is_allowed(x))
            with self.assertRaises(TooLarge):
                floor_shift(x, place)
            self.assertEqual(digit_at(x, place), digits[0])
            for count in (0, 1, 2, 64):
                self.assertEqual(digits_from(x, place, count), digits[:count])

    def test_places_behind_the_first_one_that_are_not_allowed(self):
        last = model.of_size(300)
        self.assertEqual(digits_from(model.number(-3), last, 64), [1] * 64)
        self.assertEqual(digits_from(model.number(3), last, 64), [0] * 64)
        below = model.of_size(299)
        self.assertEqual(digits_from(model.power(below), below, 64), [1] + [0] * 63)
        self.assertEqual(digits_from(model.opposite(model.power(below)), below, 64), [1] * 64)

    def test_negative_places(self):
        for place in NEGATIVE:
            for x in (ZERO, ONE, model.number(-1), GREAT):
                with self.assertRaises(NotAllowed):
                    digit_at(x, place)
                for count in (-1, 0, 1, 64, 65):
                    with self.assertRaises(NotAllowed):
                        digits_from(x, place, count)

    def test_counts(self):
        for x in (ZERO, model.number(5), model.number(-5), GREAT):
            for count in (-1, -2, -64, 65, 66, 10 ** 9):
                with self.assertRaises(NotAllowed):
                    digits_from(x, ZERO, count)
                with self.assertRaises(NotAllowed):
                    digits_from(x, GREAT, count)
            self.assertEqual(digits_from(x, ZERO, 0), [])
        self.assertEqual(digits_from(model.number(5), ZERO, 64), [1, 0, 1] + [0] * 61)
        self.assertEqual(digits_from(model.number(-5), ZERO, 64), [1, 1, 0] + [1] * 61)

    def test_zero(self):
        for place in (ZERO, ONE, GREAT, model.of_size(300)):
            self.assertEqual(digit_at(ZERO, place), 0)
            self.assertEqual(digits_from(ZERO, place, 64), [0] * 64)

    def test_lists_are_new_ones_and_arguments_stay(self):
        x, place = model.plus(GREAT, model.number(-7)), model.number(2)
        kept = repr((x, place))
        first = digits_from(x, place, 5)
        wanted = list(first)
        first.append(7)
        self.assertEqual(digits_from(x, place, 5), wanted)
        floor_shift(x, place)
        self.assertEqual(repr((x, place)), kept)


class LengthTest(unittest.TestCase):
    def test_integers(self):
        for value in range(-600, 601):
            self.assertEqual(length(model.number(value)), model.number(value.bit_length()))

    def test_dense_and_sparse_integers(self):
        for value in integers(random.Random(66), 200):
            self.assertEqual(length(model.number(value)), model.number(value.bit_length()))

    def test_great_numbers(self):
        power = model.power
        behind = model.following(GREAT)
        lower = power(power(model.number(5)))
        for sign in (1, -1):
            for x, expected in [
                (power(GREAT), behind),
                (model.plus(power(GREAT), lower), behind),
                (model.plus(power(GREAT), model.opposite(lower)), GREAT),
                (model.plus(power(GREAT), ONE), behind),
                (model.plus(power(GREAT), model.number(-1)), GREAT),
                (model.plus(power(GREAT), power(model.preceding(GREAT))), behind),
                (model.plus(power(behind), power(model.preceding(GREAT))), model.following(behind)),
            ]:
                self.assertEqual(length(x if sign == 1 else model.opposite(x)), expected)

    def test_results_just_allowed_and_just_not(self):
        exponent = model.of_size(299)
        self.assertEqual(length(model.power(exponent)), exponent + ((1, ()),))
        # The exponent 1 becomes 2 and 0, which takes more.
        exponent = model.of_size(297) + ((1, ONE),)
        self.assertEqual(model.size(model.following(exponent)), 301)
        for x in (model.power(exponent), model.opposite(model.power(exponent))):
            self.assertTrue(model.is_allowed(x))
            with self.assertRaises(TooLarge):
                length(x)
        exponent = model.of_size(295) + ((1, ONE),)
        self.assertEqual(length(model.power(exponent)), model.following(exponent))
        less = ((1, exponent), (-1, ()))
        self.assertEqual(length(less), exponent)

    def test_zero(self):
        self.assertEqual(length(ZERO), ZERO)

    def test_length_counts_the_digits(self):
        rng = random.Random(67)
        for _ in range(100):
            x = model.random_number(rng, 5)
            if not x:
                continue
            many = length(x)
            if x[0][0] > 0:
                self.assertEqual(digit_at(x, many), 0)
                self.assertEqual(digit_at(x, model.preceding(many)), 1)
            else:
                self.assertEqual(digit_at(x, many), 1)


class LowTest(unittest.TestCase):
    def test_integers(self):
        for value in range(-600, 601):
            if value:
                self.assertEqual(low(model.number(value)), model.number((value & -value).bit_length() - 1))

    def test_great_numbers(self):
        rng = random.Random(68)
        for _ in range(100):
            x = model.random_number(rng, 5)
            if x:
                place = low(x)
                self.assertEqual(place, x[-1][1])
                self.assertEqual(digit_at(x, place), 1)
                if place:
                    self.assertEqual(digit_at(x, model.preceding(place)), 0)
        self.assertEqual(low(model.raised(GREAT, 2)), model.raised(GREAT, 1))
        self.assertEqual(low(model.power(model.of_size(299))), model.of_size(299))

    def test_zero(self):
        with self.assertRaises(Missing):
            low(ZERO)


class TimeTest(unittest.TestCase):
    def test_time_with_great_numbers(self):
        begin = time.perf_counter()
        rows = [model.of_size(300), model.power(model.of_size(299)), model.raised((), 40), model.raised(GREAT, 20)]
        for x in rows:
            for place in rows:
                digit_at(x, place)
                digits_from(x, place, 64)
                low(x)
                for run in (lambda: floor_shift(x, place), lambda: length(x)):
                    try:
                        run()
                    except TooLarge:
                        pass
        self.assertLess(time.perf_counter() - begin, 20)

    def test_time_with_many_terms(self):
        # Each second digit of this number is set.
        x = model.number(-96076792050570581)
        self.assertEqual((len(x), model.size(x)), (29, 285))
        places = [model.number(place) for place in (0, 1, 7, 40)]
        times = []
        # The least of three times: something else may run on the machine for a while.
        for _ in range(3):
            begin = time.perf_counter()
            for _ in range(500):
                for place in places:
                    floor_shift(x, place)
            times.append(time.perf_counter() - begin)
        print(f"2000 calls of floor_shift: {min(times):.2f} seconds")
        self.assertLess(min(times), 1)


if __name__ == "__main__":
    unittest.main()
