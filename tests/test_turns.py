"""[4.1], [4.2], [4.3], [4.6], [4.7] and the heading sandreckoner/turns.py."""

import random
import time
import unittest

import model
from sandreckoner.errors import NotAllowed
from sandreckoner.turns import cycle_of, joined, state_behind, table_behind

GREAT = model.raised(model.number(100), 2)
OUTSIDE = [0, -1, -2, -12, 13, 14, 144, 10 ** 9, -(10 ** 9)]
NEGATIVE = [model.number(-1), model.number(-2), model.opposite(GREAT), model.opposite(model.raised((), 40))]
UNIT = ((1, 0, 0, 0), (0, 1, 0, 0), (0, 0, 1, 0))
FIBONACCI = ((1, 1, 0, 0), (1, 0, 0, 0), (0, 0, 1, -1))
TALL = [
    model.number(2 ** 64 - 1),
    model.number(3 ** 100),
    GREAT,
    model.plus(GREAT, model.number(-7)),
    model.raised(GREAT, 1),
    model.plus(model.raised(GREAT, 2), model.opposite(model.raised(GREAT, 1))),
    model.raised(model.plus(GREAT, model.number(5)), 3),
    model.raised((), 39),
    model.raised((), 40),
    model.of_size(300),
    model.power(model.of_size(299)),
]


def next_state(table, state, m):
    return tuple((sum(row[at] * state[at] for at in range(3)) + row[3]) % m for row in table)


def states(table, start, m, many):
    """The first so many states."""
    found = [tuple(part % m for part in start)]
    while len(found) < many:
        found.append(next_state(table, found[-1], m))
    return found


def cycle(table, start, m):
    """The lead and the period by the words of [4.2]."""
    rows = [tuple(part % m for part in start)]
    while rows[-1] not in rows[:-1]:
        rows.append(next_state(table, rows[-1], m))
    lead = rows.index(rows[-1])
    return lead, len(rows) - 1 - lead


def state_after(table, start, times, m):
    """The state behind a number of turns, by the cycle of the states and the remainder of the number."""
    lead, period = cycle(table, start, m)
    index = model.value_of(times) if model.order(times, model.number(5000)) < 0 else None
    if index is None:
        index = lead + (model.remainder(times, period) - lead) % period
    elif index > lead:
        index = lead + (index - lead) % period
    return states(table, start, m, index + 1)[index]


def random_entry(rng):
    kind = rng.randrange(8)
    if kind == 0:
        return rng.randrange(-(10 ** 30), 10 ** 30)
    return 0 if kind < 3 else rng.randrange(-13, 14)


def random_table(rng):
    return tuple(tuple(random_entry(rng) for _ in range(4)) for _ in range(3))


def random_start(rng):
    return tuple(random_entry(rng) for _ in range(3))


class StatesTest(unittest.TestCase):
    def test_all_moduli_against_a_list_of_states(self):
        rng = random.Random(131)
        for m in range(1, 13):
            for _ in range(25):
                table, start = random_table(rng), random_start(rng)
                self.assertEqual(cycle_of(table, start, m), cycle(table, start, m))
                rows = states(table, start, m, 60)
                for times, state in enumerate(rows):
                    self.assertEqual(state_behind(table, start, model.number(times), m), state)

    def test_entries_of_any_size(self):
        rng = random.Random(132)
        for m in range(1, 13):
            for _ in range(10):
                table, start = random_table(rng), random_start(rng)
                more = tuple(tuple(entry + m * rng.randrange(-(10 ** 40), 10 ** 40) for entry in row) for row in table)
                other = tuple(part - m * rng.randrange(10 ** 40) for part in start)
                self.assertEqual(cycle_of(more, other, m), cycle_of(table, start, m))
                for times in (0, 1, 5, 77):
                    times = model.number(times)
                    self.assertEqual(state_behind(more, other, times, m), state_behind(table, start, times, m))

    def test_by_hand(self):
        self.assertEqual(cycle_of(FIBONACCI, (1, 0, 0), 2), (0, 6))
        self.assertEqual(cycle_of(UNIT, (5, -7, 9), 12), (0, 1))
        self.assertEqual(cycle_of(((0, 0, 0, 5),) * 3, (1, 2, 3), 12), (1, 1))
        self.assertEqual(cycle_of(((0, 0, 0, 5),) * 3, (5, 5, 17), 12), (0, 1))
        self.assertEqual(cycle_of(((2, 0, 0, 0), (0, 1, 0, 0), (0, 0, 1, 0)), (1, 0, 0), 8), (3, 1))
        self.assertEqual(cycle_of(((0, 1, 0, 0), (0, 0, 1, 0), (0, 0, 0, 0)), (1, 1, 1), 7), (3, 1))
        self.assertEqual(cycle_of(((1, 0, 0, 1), (0, 1, 0, 0), (0, 0, 1, 0)), (0, 0, 0), 11), (0, 11))
        self.assertEqual(cycle_of(((2, 0, 0, 0), (0, 3, 0, 0), (0, 0, 1, 0)), (1, 1, 0), 12), (2, 2))
        self.assertEqual(state_behind(FIBONACCI, (1, 0, 0), model.number(2), 5), (2, 1, 3))
        self.assertEqual(state_behind(UNIT, (-1, 25, 13), (), 12), (11, 1, 1))
        self.assertEqual(state_behind(((1, 0, 0, -1),) + UNIT[1:], (0, 0, 0), model.number(1), 12), (11, 0, 0))

    def test_long_cycles_and_leads(self):
        for table, start, m, expected in [
            (((0, 1, 0, 0), (0, 0, 1, 0), (2, 1, 0, 0)), (1, 0, 0), 11, None),
            (((0, 1, 0, 0), (0, 0, 1, 0), (4, 1, 0, 1)), (1, 2, 3), 11, None),
            (((0, 1, 0, 1), (0, 0, 1, 3), (7, 1, 5, 1)), (1, 2, 3), 12, None),
        ]:
            found = cycle_of(table, start, m)
            self.assertEqual(found, cycle(table, start, m))
            lead, period = found
            rows = states(table, start, m, lead + 2 * period + 3)
            for times in {0, 1, lead, lead + 1, lead + period - 1, lead + period, lead + 2 * period + 2}:
                self.assertEqual(state_behind(table, start, model.number(times), m), rows[times])

    def test_great_numbers_of_turns(self):
        rng = random.Random(133)
        for m in range(1, 13):
            for _ in range(4):
                table, start = random_table(rng), random_start(rng)
                for times in TALL + [model.random_exponent(rng)]:
                    expected = state_after(table, start, times, m)
                    self.assertEqual(state_behind(table, start, times, m), expected)

    def test_towers_of_twos(self):
        counter = ((1, 0, 0, 1), (0, 1, 0, 2), (0, 0, 1, 3))
        for m in range(1, 13):
            for storeys in range(41):
                times = model.raised((), storeys)
                rest = model.remainder(times, m)
                expected = (rest % m, 2 * rest % m, 3 * rest % m)
                self.assertEqual(state_behind(counter, (0, 0, 0), times, m), expected)

    def test_leads_above_0(self):
        rng = random.Random(134)
        many = 0
        for m in (4, 8, 9, 12):
            for _ in range(60):
                table, start = random_table(rng), random_start(rng)
                lead, period = cycle_of(table, start, m)
                if lead > 0:
                    many += 1
                    rows = states(table, start, m, lead + 3 * period + 2)
                    for times in range(lead + 3 * period + 2):
                        if times < 300:
                            self.assertEqual(state_behind(table, start, model.number(times), m), rows[times])
        self.assertGreater(many, 30)

    def test_two_numbers_of_turns_one_after_another(self):
        rng = random.Random(135)
        for m in (2, 5, 9, 12):
            for _ in range(10):
                table, start = random_table(rng), random_start(rng)
                for a, b in zip(TALL, TALL[1:]):
                    middle = state_behind(table, start, a, m)
                    both = model.plus(a, b)
                    if model.is_allowed(both):
                        self.assertEqual(state_behind(table, middle, b, m), state_behind(table, start, both, m))


class TablesTest(unittest.TestCase):
    def check_entries(self, table, m):
        self.assertEqual([type(row) for row in table], [tuple] * 3)
        self.assertEqual([len(row) for row in table], [4] * 3)
        self.assertTrue(all(0 <= entry < m for row in table for entry in row))

    def test_joined(self):
        rng = random.Random(136)
        for m in range(1, 13):
            for _ in range(30):
                first, second = random_table(rng), random_table(rng)
                both = joined(first, second, m)
                self.assertIs(type(both), tuple)
                self.check_entries(both, m)
                for state in [(0, 0, 0)] + [tuple(rng.randrange(m) for _ in range(3)) for _ in range(8)]:
                    expected = next_state(second, next_state(first, state, m), m)
                    self.assertEqual(next_state(both, state, m), expected)

    def test_joined_by_hand(self):
        self.assertEqual(joined(FIBONACCI, FIBONACCI, 5), ((2, 1, 0, 0), (1, 1, 0, 0), (0, 0, 1, 3)))
        adding = ((1, 0, 0, 1), (0, 1, 0, 0), (0, 0, 1, 0))
        doubling = ((2, 0, 0, 0), (0, 2, 0, 0), (0, 0, 2, 0))
        self.assertEqual(joined(adding, doubling, 12), ((2, 0, 0, 2), (0, 2, 0, 0), (0, 0, 2, 0)))
        self.assertEqual(joined(doubling, adding, 12), ((2, 0, 0, 1), (0, 2, 0, 0), (0, 0, 2, 0)))
        self.assertEqual(joined(adding, doubling, 1), ((0, 0, 0, 0),) * 3)
        self.assertEqual(joined(UNIT, UNIT, 7), UNIT)

    def test_each_state_of_small_moduli(self):
        rng = random.Random(137)
        for m in (1, 2, 3, 4):
            for _ in range(5):
                first, second = random_table(rng), random_table(rng)
                both = joined(first, second, m)
                for code in range(m ** 3):
                    state = (code % m, code // m % m, code // m // m)
                    self.assertEqual(next_state(both, state, m), next_state(second, next_state(first, state, m), m))

    def test_table_behind_few_turns(self):
        rng = random.Random(138)
        for m in range(1, 13):
            for _ in range(6):
                table = random_table(rng)
                expected = tuple(tuple(entry % m for entry in row) for row in UNIT)
                for times in range(40):
                    found = table_behind(table, model.number(times), m)
                    self.assertIs(type(found), tuple)
                    self.check_entries(found, m)
                    self.assertEqual(found, expected)
                    expected = joined(expected, table, m)

    def test_table_behind_many_turns(self):
        rng = random.Random(139)
        for m in (2, 3, 4, 6, 7, 8, 9, 11, 12):
            for _ in range(3):
                table = random_table(rng)
                for times in TALL:
                    found = table_behind(table, times, m)
                    self.check_entries(found, m)
                    for _ in range(5):
                        start = tuple(rng.randrange(m) for _ in range(3))
                        self.assertEqual(next_state(found, start, m), state_behind(table, start, times, m))

    def test_sums_of_numbers_of_turns(self):
        rng = random.Random(140)
        for m in (5, 8, 12):
            for _ in range(4):
                table = random_table(rng)
                for a, b in list(zip(TALL, TALL[1:])) + [((), GREAT), (GREAT, model.number(5))]:
                    both = model.plus(a, b)
                    if model.is_allowed(both):
                        parts = joined(table_behind(table, a, m), table_behind(table, b, m), m)
                        self.assertEqual(table_behind(table, both, m), parts)
                        turned = joined(table_behind(table, b, m), table_behind(table, a, m), m)
                        self.assertEqual(turned, parts)


class ErrorsTest(unittest.TestCase):
    def test_moduli(self):
        for m in OUTSIDE:
            with self.assertRaises(NotAllowed):
                cycle_of(FIBONACCI, (1, 0, 0), m)
            with self.assertRaises(NotAllowed):
                joined(FIBONACCI, UNIT, m)
            for times in [(), model.number(3), GREAT] + NEGATIVE:
                with self.assertRaises(NotAllowed):
                    state_behind(FIBONACCI, (1, 0, 0), times, m)
                with self.assertRaises(NotAllowed):
                    table_behind(FIBONACCI, times, m)
        self.assertEqual(cycle_of(FIBONACCI, (3, 4, 5), 1), (0, 1))
        self.assertEqual(state_behind(FIBONACCI, (3, 4, 5), GREAT, 1), (0, 0, 0))
        self.assertEqual(table_behind(FIBONACCI, GREAT, 1), ((0, 0, 0, 0),) * 3)

    def test_negative_numbers_of_turns(self):
        for times in NEGATIVE:
            for m in (1, 2, 12):
                with self.assertRaises(NotAllowed):
                    state_behind(FIBONACCI, (1, 0, 0), times, m)
                with self.assertRaises(NotAllowed):
                    table_behind(FIBONACCI, times, m)

    def test_time(self):
        begin = time.perf_counter()
        table = ((0, 1, 0, 1), (0, 0, 1, 3), (7, 1, 5, 1))
        for m in (10, 11, 12):
            for times in TALL:
                state_behind(table, (1, 2, 3), times, m)
                table_behind(table, times, m)
        self.assertLess(time.perf_counter() - begin, 20)


if __name__ == "__main__":
    unittest.main()
