"""[1.5] sums and differences, and the heading sandreckoner/sums.py."""

import random
import unittest

import model
from sandreckoner.errors import NotAllowed, TooLarge
from sandreckoner.sums import add, negate, subtract, sum_terms

ONE = model.number(1)
GREAT = model.raised(model.number(100), 2)


def above(base, value):
    """value * 2 ** base, where base has no exponents near those of small integers."""
    return tuple((sign, model.plus(base, model.number(place))) for sign, place in model.places_of(value))


class SumsCase(unittest.TestCase):
    def same(self, run, expected):
        """What run returns is the number, or it raises TooLarge if that is not allowed."""
        if model.is_allowed(expected):
            self.assertEqual(run(), expected)
        else:
            with self.assertRaises(TooLarge):
                run()


class AddTest(SumsCase):
    def check(self, x, y, total, difference):
        self.same(lambda: add(x, y), total)
        self.same(lambda: add(y, x), total)
        self.same(lambda: subtract(x, y), difference)
        self.same(lambda: subtract(y, x), model.opposite(difference))

    def test_integers(self):
        for a in range(-40, 41):
            for b in range(-40, 41):
                x, y = model.number(a), model.number(b)
                self.assertEqual(add(x, y), model.number(a + b))
                self.assertEqual(subtract(x, y), model.number(a - b))

    def test_dense_and_sparse_integers(self):
        rng = random.Random(21)
        for _ in range(400):
            a, b = model.random_integer(rng), model.random_integer(rng)
            x, y = model.number(a), model.number(b)
            if model.is_allowed(x) and model.is_allowed(y):
                self.check(x, y, model.number(a + b), model.number(a - b))

    def test_integers_of_many_digits(self):
        rng = random.Random(22)
        for _ in range(100):
            a = sum(rng.choice((1, -1)) << rng.randrange(2800, 2820) for _ in range(8)) + rng.randrange(-9, 10)
            b = sum(rng.choice((1, -1)) << rng.randrange(2800, 2820) for _ in range(8)) + rng.randrange(-9, 10)
            self.check(model.number(a), model.number(b), model.number(a + b), model.number(a - b))

    def test_great_numbers(self):
        rng = random.Random(23)
        for _ in range(300):
            x, y = model.random_number(rng, 8), model.random_number(rng, 8)
            self.check(x, y, model.plus(x, y), model.plus(x, model.opposite(y)))

    def test_multiples_of_a_great_power(self):
        rng = random.Random(24)
        for base in (GREAT, model.power(GREAT), model.number(2 ** 500)):
            for _ in range(60):
                a, b = rng.randrange(-3000, 3000), rng.randrange(-3000, 3000)
                self.check(above(base, a), above(base, b), above(base, a + b), above(base, a - b))

    def test_equal_and_neighbouring_exponents(self):
        before, behind = model.preceding(GREAT), model.following(GREAT)
        power = model.power
        self.assertEqual(add(power(before), power(before)), power(GREAT))
        self.assertEqual(add(power(GREAT), power(GREAT)), power(behind))
        self.assertEqual(add(power(GREAT), power(before)), ((1, behind), (-1, before)))
        self.assertEqual(subtract(power(GREAT), power(before)), power(before))
        self.assertEqual(subtract(power(behind), power(before)), ((1, behind), (-1, before)))
        self.assertEqual(subtract(power(before), power(behind)), ((-1, behind), (1, before)))
        self.assertEqual(subtract(power(GREAT), power(GREAT)), ())

    def test_sums_that_vanish(self):
        rng = random.Random(25)
        for _ in range(50):
            x = model.random_number(rng, 8)
            self.assertEqual(subtract(x, x), ())
            self.assertEqual(add(x, model.opposite(x)), ())
            self.assertEqual(add(x, ()), x)
            self.assertEqual(add((), x), x)
            self.assertEqual(subtract((), x), model.opposite(x))

    def test_carries_over_many_terms(self):
        for base in ((), model.number(2 ** 300), GREAT):
            long = above(base, 2 * (4 ** 20 - 1) // 3)
            self.same(lambda: add(long, long), above(base, 4 * (4 ** 20 - 1) // 3))
            self.same(lambda: add(long, above(base, 1)), above(base, 2 * (4 ** 20 - 1) // 3 + 1))
            ones = above(base, 4 ** 14 - 1)
            self.assertEqual(add(ones, above(base, 1)), above(base, 4 ** 14))
        short = above(GREAT, (4 ** 10 - 1) // 3)
        self.same(lambda: add(short, above(GREAT, 2)), above(GREAT, (4 ** 10 - 1) // 3 + 2))
        self.same(lambda: add(short, above(GREAT, -1)), above(GREAT, (4 ** 10 - 1) // 3 - 1))

    def test_carries_in_exponents(self):
        exponent = model.plus(GREAT, model.number((4 ** 12 - 1) // 3 * 2))
        x = model.power(exponent)
        self.assertEqual(add(x, x), model.power(model.following(exponent)))
        self.assertEqual(add(add(x, x), add(x, x)), model.power(model.following(model.following(exponent))))

    def test_results_just_allowed_and_just_not(self):
        for wanted in (298, 299):
            self.assertEqual(add(model.of_size(wanted), ONE), model.of_size(wanted) + ((1, ()),))
            self.assertEqual(subtract(ONE, model.of_size(wanted)), model.opposite(model.of_size(wanted)) + ((1, ()),))
        full = model.of_size(300)
        self.assertEqual(add(full, ()), full)
        self.assertEqual(subtract(full, full), ())
        for other in (ONE, model.number(-1), model.number(77)):
            for run in (add, subtract):
                with self.assertRaises(TooLarge):
                    run(full, other)
                with self.assertRaises(TooLarge):
                    run(other, full)

    def test_height_of_the_result(self):
        tower = model.raised((), 40)
        self.assertEqual(add(tower, ONE), tower + ((1, ()),))
        self.assertEqual(add(tower, tower), model.power(model.following(model.raised((), 39))))

    def test_arguments_stay(self):
        x, y = model.plus(GREAT, ONE), model.plus(GREAT, model.number(-7))
        kept = repr((x, y))
        add(x, y)
        subtract(x, y)
        negate(x)
        self.assertEqual(repr((x, y)), kept)


class NegateTest(unittest.TestCase):
    def test_integers(self):
        for value in range(-300, 301):
            self.assertEqual(negate(model.number(value)), model.number(-value))

    def test_great_numbers(self):
        rng = random.Random(26)
        for _ in range(100):
            x = model.random_number(rng, 8)
            self.assertEqual(negate(x), model.opposite(x))
            self.assertEqual(negate(negate(x)), x)
        self.assertEqual(negate(model.of_size(300)), model.opposite(model.of_size(300)))


class SumTermsTest(SumsCase):
    def test_no_terms(self):
        self.assertEqual(sum_terms([]), ())

    def test_small_exponents(self):
        rng = random.Random(27)
        for _ in range(300):
            rows = [(rng.choice((1, -1)), rng.randrange(rng.choice((4, 30)))) for _ in range(rng.randrange(30))]
            value = sum(sign * 2 ** place for sign, place in rows)
            self.assertEqual(sum_terms([(sign, model.number(place)) for sign, place in rows]), model.number(value))

    def test_great_exponents(self):
        rng = random.Random(28)
        for _ in range(200):
            terms = model.random_terms(rng, rng.randrange(20))
            self.same(lambda: sum_terms(terms), model.total(terms))

    def test_exponents_near_one_another(self):
        rng = random.Random(29)
        for base in (GREAT, model.power(model.preceding(GREAT)), model.plus(GREAT, model.number(2 ** 64))):
            for many in (2, 5, 20, 60):
                for _ in range(10):
                    terms = [
                        (rng.choice((1, -1)), model.plus(base, model.number(rng.randrange(-many, many))))
                        for _ in range(many)
                    ]
                    self.same(lambda: sum_terms(terms), model.total(terms))

    def test_any_order(self):
        rng = random.Random(30)
        terms = model.random_terms(rng, 12)
        expected = model.total(terms)
        for _ in range(20):
            rng.shuffle(terms)
            self.same(lambda: sum_terms(terms), expected)

    def test_exponents_that_are_near_without_a_term_in_common(self):
        # These differ by 1, although their first terms are not the same.
        upper, lower = model.number(0b1010101011), model.number(0b1010101010)
        self.assertNotEqual(upper[0], lower[0])
        for base in ((), GREAT):
            high, low = model.plus(base, upper), model.plus(base, lower)
            self.assertEqual(sum_terms([(1, high), (-1, low)]), model.power(low))
            self.assertEqual(sum_terms([(-1, low), (-1, low), (1, high)]), ())

    def test_400_and_401_terms(self):
        self.assertEqual(sum_terms([(1, ())] * 400), model.number(400))
        self.assertEqual(sum_terms([(-1, GREAT)] * 400), model.opposite(above(GREAT, 400)))
        self.assertEqual(sum_terms([(1, GREAT), (-1, GREAT)] * 200), ())
        for terms in ([(1, ())] * 401, [(1, GREAT), (-1, GREAT)] * 201, [(1, ())] * 5000):
            with self.assertRaises(TooLarge):
                sum_terms(terms)

    def test_wrong_terms(self):
        for sign in (0, 2, -2, 3, 10 ** 30):
            with self.assertRaises(NotAllowed):
                sum_terms([(1, ()), (sign, GREAT)])
        for exponent in (model.number(-1), model.number(-2), model.opposite(GREAT), model.opposite(model.of_size(300))):
            for sign in (1, -1):
                with self.assertRaises(NotAllowed):
                    sum_terms([(sign, exponent), (1, ())])

    def test_wrong_terms_come_before_too_large(self):
        for wrong in ((0, ()), (2, GREAT), (1, model.number(-1)), (-1, model.opposite(GREAT))):
            for at in (0, 200, 400, 999):
                terms = [(1, ())] * 999
                terms.insert(at, wrong)
                with self.assertRaises(NotAllowed):
                    sum_terms(terms)
            with self.assertRaises(NotAllowed):
                sum_terms([(1, model.of_size(300)), wrong])

    def test_results_just_allowed_and_just_not(self):
        for wanted in (299, 300, 301):
            terms = list(model.of_size(wanted))
            self.same(lambda: sum_terms(terms), model.of_size(wanted))
        self.assertEqual(sum_terms([(1, model.of_size(299))]), model.power(model.of_size(299)))
        with self.assertRaises(TooLarge):
            sum_terms([(1, model.of_size(300))])
        self.assertEqual(sum_terms([(1, model.raised((), 39))]), model.raised((), 40))
        with self.assertRaises(TooLarge):
            sum_terms([(1, model.raised((), 40))])

    def test_what_comes_up_on_the_way(self):
        wide = [(1, model.plus(model.of_size(250), model.number(3 * place))) for place in range(100)]
        back = [(-sign, exponent) for sign, exponent in wide]
        self.assertEqual(sum_terms(wide + back), ())
        self.assertEqual(sum_terms(back + [(1, GREAT)] + wide), model.power(GREAT))
        high = model.raised((), 40)
        self.assertEqual(sum_terms([(1, high), (1, ()), (-1, high)]), ONE)
        self.assertEqual(sum_terms([(1, high)] * 100 + [(-1, high)] * 100), ())
        full = model.of_size(300)
        self.assertEqual(sum_terms([(1, full), (1, ()), (1, full), (-1, full), (-1, full)]), ONE)
        # The first two terms together have an exponent that is not allowed.
        odd = model.plus(model.of_size(297), model.number(3))
        self.assertEqual(model.size(odd), 301)
        below = model.preceding(odd)
        self.assertEqual(sum_terms([(1, below), (1, below), (-1, below)]), model.power(below))

    def test_argument_stays_as_it_was(self):
        terms = [(1, GREAT), (-1, ()), (1, model.number(3)), (1, GREAT)]
        kept = list(terms)
        first = sum_terms(terms)
        self.assertEqual(terms, kept)
        terms.append((1, ()))
        self.assertEqual(sum_terms(kept), first)


if __name__ == "__main__":
    unittest.main()
