"""[5.3]: numbers of both groups do not have to be allowed, and are calculated with all the same."""

import random
import unittest

import groups
import model

from sandreckoner.affine import adding, as_adding, as_doubling, bare_inverse, bare_product, doubling
from sandreckoner.factors import Factors
from sandreckoner.forms import of_int
from sandreckoner.halves import Factor
from sandreckoner.pinches import Row

# Greater than what is allowed: in size, and in height.
WIDE = model.plus(model.of_size(300), model.raised(model.of_size(299), 2))
HIGH = model.plus(model.raised((), 55), model.number(-3))


def random_element(rng):
    numbers = [model.plus(rng.choice((WIDE, HIGH, ())), model.random_number(rng, 3)) for _ in range(3)]
    u, v, m = [model.opposite(x) if rng.randrange(2) else x for x in numbers]
    return groups.Tall().plain((u, v if model.order(v, ()) > 0 else model.opposite(v), m))


def as_model(element):
    u, v, m = element
    return (groups.shifted(u, v), (), m) if model.order(v, ()) > 0 else (u, model.opposite(v), m)


class NotAllowedNumbersTest(unittest.TestCase):
    def setUp(self):
        self.assertFalse(model.is_allowed(WIDE))
        self.assertFalse(model.is_allowed(HIGH))

    def test_products_and_inverses(self):
        rng = random.Random(1)
        tall = groups.Tall()
        for _ in range(40):
            x, y = random_element(rng), random_element(rng)
            self.assertEqual(bare_product(x, y), tall.plain(tall.product(as_model(x), as_model(y))))
            self.assertEqual(bare_product(x, bare_inverse(x)), ((), (), ()))

    def test_powers_of_single_letters(self):
        for k in (WIDE, HIGH, model.opposite(HIGH)):
            self.assertEqual(as_adding(adding(k)), k)
            self.assertEqual(as_doubling(doubling(k)), k)
            self.assertIsNone(as_adding(doubling(k)))
            self.assertIsNone(as_doubling(adding(k)))

    def test_a_pinch(self):
        for k in (WIDE, HIGH):
            for word, element, worth in (("bB", adding(k), doubling(k)), ("Bb", doubling(k), adding(k))):
                row = Row(word)
                row.between[1] = element
                self.assertEqual(row.power_at(0), k)
                self.assertEqual(row.reduce(), [(0, k)])
                self.assertEqual(row.end(), (0, worth))

    def test_handing_over(self):
        for k in (WIDE, HIGH):
            factors = Factors("dad")
            for letter in "ca":
                factors.row[1].put_power(letter, k)
            powers = [("a", of_int(1)), ("c", k), ("a", k)]
            self.assertEqual(factors.powers_at(1), powers)
            self.assertEqual(factors.reduce(), [(1, powers)])
            self.assertEqual(factors.end(), (1, []))

    def test_powers_of_a_factor(self):
        # b to the power k takes c to its power 2 ** k.
        for k in (WIDE, HIGH):
            factor = Factor("abc")
            for letter, power in (("b", k), ("c", of_int(1)), ("b", model.opposite(k))):
                factor.put_power(letter, power)
            self.assertEqual(factor.powers(), [("c", model.power(k))])


if __name__ == "__main__":
    unittest.main()
