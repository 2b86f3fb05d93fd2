"""[4.4], [4.5], [4.7] and the heading sandreckoner/recur.py."""

import random
import time
import unittest

import model
from sandreckoner.errors import NotAllowed, TooLarge
from sandreckoner.recur import grown, sequence_at

GREAT = model.raised(model.number(100), 2)
ONE = model.number(1)
NEGATIVE = [model.number(-1), model.number(-2), model.opposite(GREAT), model.opposite(model.raised((), 40))]
OUTSIDE = [0, -1, -12, 13, 14, 10 ** 9]
TALL = [
    model.number(3 ** 100),
    GREAT,
    model.plus(GREAT, model.number(-7)),
    model.plus(model.raised(GREAT, 2), model.opposite(model.raised(GREAT, 1))),
    model.raised((), 40),
    model.of_size(300),
    model.power(model.of_size(299)),
]


def members(factors, first, m, many):
    """The first so many members of a sequence."""
    found = [part % m for part in first]
    while len(found) < many:
        found.append(sum(factor * part for factor, part in zip(factors, found[::-1])) % m)
    return found[:many]


def random_lists(rng):
    k = rng.randrange(1, 4)
    most = rng.choice((3, 12, 10 ** 30))
    return [[rng.randrange(-most, most + 1) for _ in range(k)] for _ in range(2)]


class SequenceTest(unittest.TestCase):
    def test_small_places(self):
        rng = random.Random(141)
        for m in range(1, 13):
            for _ in range(30):
                factors, first = random_lists(rng)
                for place, member in enumerate(members(factors, first, m, 30)):
                    self.assertEqual(sequence_at(factors, first, model.number(place), m), member)

    def test_by_hand(self):
        for place, member in enumerate([0, 1, 1, 2, 3, 5, 8, 3, 1, 4, 5, 9, 4]):
            self.assertEqual(sequence_at([1, 1], [0, 1], model.number(place), 10), member)
        self.assertEqual(sequence_at([2], [3], model.number(4), 12), 0)
        self.assertEqual([sequence_at([2], [3], model.number(place), 11) for place in range(5)], [3, 6, 1, 2, 4])
        self.assertEqual([sequence_at([0, 0, 1], [5, 7, 20], model.number(place), 9) for place in range(7)],
                         [5, 7, 2, 5, 7, 2, 5])
        self.assertEqual([sequence_at([0, 0, 0], [5, 7, 20], model.number(place), 9) for place in range(5)],
                         [5, 7, 2, 0, 0])
        self.assertEqual([sequence_at([1, 2, 3], [1, 0, 0], model.number(place), 12) for place in range(7)],
                         [1, 0, 0, 3, 3, 9, 0])
        self.assertEqual([sequence_at([-1], [-1], model.number(place), 12) for place in range(4)], [11, 1, 11, 1])

    def test_great_places(self):
        rng = random.Random(142)
        for m in range(1, 13):
            for _ in range(4):
                factors, first = random_lists(rng)
                k = len(factors)
                rows = members(factors, first, m, 2 * m ** 3 + 10)
                seen = {}
                at = 0
                while tuple(rows[at:at + k]) not in seen:
                    seen[tuple(rows[at:at + k])] = at
                    at += 1
                lead = seen[tuple(rows[at:at + k])]
                for place in TALL:
                    expected = rows[lead + (model.remainder(place, at - lead) - lead) % (at - lead)]
                    self.assertEqual(sequence_at(factors, first, place, m), expected)

    def test_the_rule_holds_at_great_places(self):
        rng = random.Random(143)
        for m in (5, 11, 12):
            for _ in range(10):
                factors, first = random_lists(rng)
                for place in TALL[:4]:
                    before = [
                        sequence_at(factors, first, model.plus(place, model.number(-i - 1)), m)
                        for i in range(len(factors))
                    ]
                    expected = sum(factor * part for factor, part in zip(factors, before)) % m
                    self.assertEqual(sequence_at(factors, first, place, m), expected)

    def test_lengths_of_the_lists(self):
        for factors, first in [
            ([], []), ([1], []), ([], [1]), ([1], [1, 2]), ([1, 2], [1]), ([1, 2, 3], [1, 2]), ([1, 2], [1, 2, 3]),
            ([1, 2, 3, 4], [1, 2, 3, 4]), ([1, 2, 3], [1, 2, 3, 4]), ([1, 2, 3, 4], [1, 2, 3]), ([0] * 9, [0] * 9),
        ]:
            for m in (1, 5, 12, 0, 13):
                for place in ((), ONE, GREAT, model.number(-1)):
                    with self.assertRaises(NotAllowed):
                        sequence_at(factors, first, place, m)

    def test_moduli_and_places(self):
        for factors in ([1], [1, 1], [1, 0, 1]):
            for m in OUTSIDE:
                for place in ((), ONE, GREAT):
                    with self.assertRaises(NotAllowed):
                        sequence_at(factors, factors, place, m)
            for m in (1, 2, 12, 0, 13):
                for place in NEGATIVE:
                    with self.assertRaises(NotAllowed):
                        sequence_at(factors, factors, place, m)
            self.assertEqual(sequence_at(factors, factors, GREAT, 1), 0)

    def test_lists_stay(self):
        for k in (1, 2, 3):
            factors, first = [3, -4, 5][:k], [7, 8, -9][:k]
            sequence_at(factors, first, model.number(2), 5)
            sequence_at(factors, first, GREAT, 5)
            self.assertEqual((factors, first), ([3, -4, 5][:k], [7, 8, -9][:k]))
        factors, first = [1, 2, 3, 4], [1]
        with self.assertRaises(NotAllowed):
            sequence_at(factors, first, ONE, 5)
        self.assertEqual((factors, first), ([1, 2, 3, 4], [1]))


class GrownTest(unittest.TestCase):
    def same(self, expected, *args):
        """What grown returns is the number, or it raises TooLarge if that is not allowed."""
        if model.is_allowed(expected):
            self.assertEqual(grown(*args), expected)
        else:
            with self.assertRaises(TooLarge):
                grown(*args)

    def fails(self, error, *args):
        with self.assertRaises(error):
            grown(*args)

    def test_integers(self):
        for x in range(-9, 10):
            for c in range(-9, 10):
                y = z = x
                for times in range(9):
                    args = (model.number(x), model.number(c), model.number(times))
                    self.assertEqual(grown(False, *args), model.number(y))
                    self.assertEqual(grown(True, *args), model.number(z))
                    y, z = y + c, 2 * z + c

    def test_integers_of_many_digits(self):
        rng = random.Random(144)
        for _ in range(200):
            x, c, times = model.random_integer(rng), model.random_integer(rng), rng.randrange(2000)
            args = (model.number(x), model.number(c), model.number(times))
            if all(model.is_allowed(number) for number in args):
                self.same(model.number((x + c << times) - c), True, *args)
                if len(args[1]) * len(args[2]) <= 400 and model.is_allowed(model.number(c * times)):
                    self.same(model.number(x + c * times), False, *args)
                else:
                    self.fails(TooLarge, False, *args)

    def test_great_numbers(self):
        rng = random.Random(145)
        many = 0
        for _ in range(150):
            x, c, times = (model.random_number(rng, 3) for _ in range(3))
            times = times if model.order(times, ()) >= 0 else model.opposite(times)
            total = model.plus(x, c)
            up = tuple((sign, model.plus(exponent, times)) for sign, exponent in total)
            self.same(model.plus(up, model.opposite(c)), True, x, c, times)
            product = model.times(c, times)
            if model.is_allowed(product):
                many += 1
                self.same(model.plus(x, product), False, x, c, times)
            else:
                self.fails(TooLarge, False, x, c, times)
        self.assertGreater(many, 50)

    def test_by_hand(self):
        power = model.power
        self.assertEqual(grown(True, ONE, (), GREAT), power(GREAT))
        self.assertEqual(grown(True, (), ONE, GREAT), model.plus(power(GREAT), model.number(-1)))
        self.assertEqual(grown(True, ONE, model.number(-1), GREAT), ONE)
        self.assertEqual(grown(True, model.number(-5), model.number(5), model.raised((), 40)), model.number(-5))
        self.assertEqual(grown(False, ONE, ONE, GREAT), model.following(GREAT))
        self.assertEqual(grown(False, GREAT, model.number(-1), GREAT), ())
        self.assertEqual(grown(False, (), GREAT, GREAT), power(model.number(2 ** 101)))

    def test_no_turns_and_nothing_to_add(self):
        rows = [(), ONE, GREAT, model.number(-77), TALL[5], model.opposite(TALL[5])]
        for double in (False, True):
            for x in rows:
                for c in rows:
                    self.assertEqual(grown(double, x, c, ()), x)
                self.assertEqual(grown(double, x, (), ()), x)
        for x in rows:
            for times in [ONE] + TALL:
                self.assertEqual(grown(False, x, (), times), x)
            self.assertEqual(grown(True, model.opposite(x), x, GREAT), model.opposite(x))

    def test_negative_numbers_of_turns(self):
        rows = [(), ONE, GREAT, TALL[5]]
        for times in NEGATIVE:
            for double in (False, True):
                for x in rows:
                    for c in rows:
                        self.fails(NotAllowed, double, x, c, times)

    def test_results_just_allowed_and_just_not(self):
        upper = model.of_size(298)
        self.assertEqual(grown(True, ONE, (), upper), model.power(upper))
        self.assertEqual(grown(True, (), ONE, upper), model.power(upper) + ((-1, ()),))
        upper = model.of_size(299)
        self.assertEqual(grown(True, ONE, (), upper), model.power(upper))
        self.fails(TooLarge, True, (), ONE, upper)
        self.fails(TooLarge, True, ONE, (), model.of_size(300))
        self.assertEqual(grown(False, model.of_size(299), ONE, ONE), model.of_size(299) + ((1, ()),))
        self.fails(TooLarge, False, model.of_size(300), ONE, ONE)
        self.assertEqual(grown(True, ONE, (), model.raised((), 39)), model.raised((), 40))
        self.fails(TooLarge, True, ONE, (), model.raised((), 40))

    def test_sums_that_are_not_allowed_on_the_way(self):
        # The exponent of 2 * x takes less than that of x, so x + c takes more than the result and than c.
        exponent = model.of_size(100)
        x = model.power(model.preceding(exponent))
        for result in (model.of_size(200), model.opposite(model.of_size(199)), model.number(77)):
            c = model.plus(result, model.opposite(model.power(exponent)))
            self.assertTrue(model.is_allowed(x) and model.is_allowed(c))
            self.assertEqual(model.is_allowed(model.plus(x, c)), model.size(result) < 200)
            self.assertEqual(grown(True, x, c, ONE), result)
            self.assertEqual(grown(True, model.opposite(x), model.opposite(c), ONE), model.opposite(result))

    def test_products_of_more_than_400_terms(self):
        twenty = model.number(sum(4 ** place for place in range(20)))
        more = model.number(sum(4 ** place for place in range(21)))
        self.assertEqual(grown(False, (), twenty, twenty), model.times(twenty, twenty))
        for x in ((), ONE, model.opposite(model.times(twenty, more))):
            self.fails(TooLarge, False, x, twenty, more)
            self.fails(TooLarge, False, x, more, twenty)
        up = tuple((sign, model.plus(exponent, more)) for sign, exponent in model.plus(more, twenty))
        self.same(model.plus(up, model.opposite(twenty)), True, more, twenty, more)
        self.assertEqual(grown(True, model.opposite(twenty), twenty, more), model.opposite(twenty))

    def test_products_that_are_not_allowed(self):
        # The product is not allowed, though the sum would be.
        c = model.power(model.of_size(299))
        times = model.number(2)
        product = model.power(model.following(model.of_size(299)))
        self.assertFalse(model.is_allowed(product))
        self.fails(TooLarge, False, (), c, times)
        self.fails(TooLarge, False, model.opposite(c), c, times)
        self.assertEqual(grown(True, model.opposite(c), c, times), model.opposite(c))

    def test_arguments_stay(self):
        args = (model.plus(GREAT, ONE), model.number(-7), GREAT)
        kept = repr(args)
        grown(True, *args)
        grown(False, *args)
        self.assertEqual(repr(args), kept)

    def test_time(self):
        begin = time.perf_counter()
        for x in TALL:
            for c in TALL:
                for times in TALL:
                    for double in (False, True):
                        try:
                            grown(double, x, c, times)
                        except TooLarge:
                            pass
        for place in TALL:
            sequence_at([1, 2, 7], [1, 1, 1], place, 11)
        self.assertLess(time.perf_counter() - begin, 60)


if __name__ == "__main__":
    unittest.main()
