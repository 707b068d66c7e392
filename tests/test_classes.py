"""[60] Rows, and lists of them."""

import random
import unittest
from math import lcm

from pulledrooms.classes import (are_rows, in_rows, is_row, least_rows, rows_met, rows_together, rows_within,
                                 same_rows)
from pulledrooms.errors import BadNumber, BadRows, TooMany
from tests.helper import HUGE, ODD

EXAMPLE = [(0, 4), (2, 4), (3, 0), (6, 0)]
GREAT = 10 ** 59 + 9
STEPS = ((0, 1, 2, 3, 4, 6), (0, 2, 3, 4, 6, 8, 12), (2, 3, 4, 5, 6, 10), (0, 2, 4, 8, 16), (3, 9, 27, 2, 6, 18))
NO_ROWS = ((4, 4), (-1, 4), (1, -4), (0, -1), (True, 4), (0, True), (0, False), (1,), (1, 2, 3), [1, 2], (None, 0),
           ("0", 2), ((0, 2), 3))


def has(rows, number):
    return any(number == first if step == 0 else number % step == first for first, step in rows)


def some_rows(chance, most, steps):
    rows = []
    for _ in range(chance.randint(0, most)):
        step = chance.choice(steps)
        rows.append((chance.randint(-20, 40), 0) if step == 0 else (chance.randrange(step), step))
    return rows


def numbers_for(*lists):
    """So many numbers that nothing else comes behind them."""
    common = lcm(*[step for rows in lists for _, step in rows if step > 0])
    return range(-25 - common, 45 + common)


def split_up(chance, many):
    """So many rows or more that have each number once."""
    rows = [(0, 1)]
    while len(rows) < many:
        first, step = rows.pop(chance.randrange(len(rows)))
        parts = chance.choice((2, 2, 3, 5))
        rows += [(first + step * rest, step * parts) for rest in range(parts)]
    return rows


class Rows(unittest.TestCase):
    def test_what_is_a_row(self):
        for row in ((0, 1), (3, 4), (-3, 0), (HUGE, 0), (HUGE - 1, HUGE), (0, 0), (0, HUGE)):
            self.assertIs(is_row(row), True, row)
        for thing in NO_ROWS + tuple(thing for thing in ODD if thing != (0, 1)):
            self.assertIs(is_row(thing), False, thing)

    def test_what_is_a_list_of_rows(self):
        for rows in ([], (), EXAMPLE, tuple(EXAMPLE), [(0, 1)] * 200, [(n, 0) for n in range(200, 0, -1)]):
            self.assertIs(are_rows(rows), True)
        for thing in ODD + ([(0, 1)] * 201, {(0, 1): (0, 1)}, (0, 1), [(0, 1), None]) + tuple([row] for row in NO_ROWS):
            if thing not in ([], ()):
                self.assertIs(are_rows(thing), False, thing)
                for asked in (rows_met, rows_together, rows_within, same_rows):
                    for values in ((thing, None), ([], thing)):
                        with self.assertRaises(BadRows):
                            asked(*values)
                with self.assertRaises(BadRows):
                    in_rows(thing, None)
                with self.assertRaises(BadRows):
                    least_rows(thing)

    def test_in_rows(self):
        self.assertEqual([n for n in range(-8, 10) if in_rows(EXAMPLE, n)], [-8, -6, -4, -2, 0, 2, 3, 4, 6, 8])
        self.assertIs(in_rows([(5, GREAT)], 5 - GREAT * HUGE), True)
        self.assertIs(in_rows(((5, GREAT),), 6 - GREAT * HUGE), False)
        self.assertIs(in_rows([], 0), False)
        self.assertIs(in_rows([(-HUGE, 0)], -HUGE), True)
        for number in (True, None, "0", (0,), [0]):
            with self.assertRaises(BadNumber):
                in_rows(EXAMPLE, number)


class Lists(unittest.TestCase):
    def told(self, rows):
        self.assertEqual(rows, sorted(set(rows)))
        self.assertTrue(type(rows) is list and all(is_row(row) for row in rows))
        return rows

    def test_by_trying_numbers(self):
        chance = random.Random(60)
        within = []
        for _ in range(1500):
            steps = chance.choice(STEPS)
            rows, more = some_rows(chance, 5, steps), some_rows(chance, chance.choice((2, 8)), steps)
            numbers = numbers_for(rows, more)
            met, together = self.told(rows_met(rows, more)), self.told(rows_together(rows, tuple(more)))
            for number in numbers:
                self.assertEqual(has(met, number), has(rows, number) and has(more, number))
                self.assertEqual(has(together, number), has(rows, number) or has(more, number))
            inside = all(has(more, number) for number in numbers if has(rows, number))
            around = all(has(rows, number) for number in numbers if has(more, number))
            self.assertIs(rows_within(rows, more), inside, (rows, more))
            self.assertIs(same_rows(rows, more), inside and around)
            within.append((inside, around))
        self.assertGreater(min(within.count((one, other)) for one in (True, False) for other in (True, False)), 50)

    def test_nearly_all_numbers(self):
        chance = random.Random(64)
        told = []
        for _ in range(2500):
            steps = chance.choice(((4, 6, 8, 12), (2, 4, 8, 16), (6, 9, 18, 12), (5, 10, 3, 6), (3, 9, 27), (4, 6, 10, 15),
                                   (6, 12, 24), (4, 12, 18)))
            rows = [row for row in some_rows(chance, 40, steps) if chance.random() < 0.8]
            if chance.random() < 0.3:
                # Half of all numbers, and others twice as far apart.
                rows = [(0, 2)] + [(2 * first + 1, 2 * step) for first, step in rows]
                steps = [2 * step for step in steps]
            right = all(has(rows, number) for number in range(lcm(*steps)))
            self.assertIs(rows_within([(0, 1)], rows), right, rows)
            told.append(right)
        self.assertTrue(200 < told.count(True) < 2300)

    def test_example(self):
        self.assertEqual(least_rows(EXAMPLE), [(0, 2), (3, 0)])
        met = rows_met(EXAMPLE, [(0, 3), (3, 6)])
        self.assertIs(same_rows(met, [(0, 12), (3, 0), (6, 12)]), True)

    def test_equal_rows_and_any_order(self):
        self.assertEqual(self.told(rows_together([(3, 4), (3, 4)], [(3, 4), (1, 2), (-7, 0)])), [(1, 2)])
        self.assertIs(same_rows([(3, 4), (1, 4), (5, 0), (1, 4)], [(1, 2)]), True)
        self.assertEqual(rows_met([(1, 2), (1, 2)], [(0, 3), (0, 3)]), [(3, 6)])
        self.assertEqual(rows_met([], EXAMPLE), [])
        self.assertIs(rows_within([], []), True)
        self.assertIs(rows_within([(0, 1)], []), False)

    def test_single_numbers_never_fill_a_row(self):
        self.assertIs(rows_within([(0, 2)], [(number, 0) for number in range(-100, 100)]), False)
        self.assertIs(rows_within([(0, 2)], [(0, 4), (2, 0), (6, 0), (2, 8)]), False)
        self.assertIs(rows_within([(0, 2)], [(0, 4), (2, 0), (6, 8), (2, 8)]), True)

    def test_steps_of_many_digits(self):
        self.assertEqual(rows_met([(5, GREAT)], [(5, GREAT - 1)]), [(5, GREAT * (GREAT - 1))])
        self.assertEqual(rows_met([(0, 2 * GREAT)], [(GREAT, 3 * GREAT)]), [(4 * GREAT, 6 * GREAT)])
        self.assertEqual(rows_met([(1, 2 * GREAT)], [(0, 4 * GREAT)]), [])
        self.assertEqual(rows_met([(7 + GREAT, 0)], [(7, GREAT)]), [(7 + GREAT, 0)])
        parts = [(5 + GREAT * rest, 199 * GREAT) for rest in range(199)]
        self.assertIs(same_rows(parts, [(5, GREAT)]), True)
        self.assertIs(rows_within([(5, GREAT)], parts[1:]), False)
        self.assertIs(rows_within([(5, GREAT)], parts[1:] + [(5 + 199 * GREAT, 597 * GREAT)]), False)
        self.assertIs(rows_within([(5, 7 * GREAT)], parts), True)
        halves = [(2 ** k - 1, 2 ** (k + 1)) for k in range(198)]
        self.assertIs(rows_within([(0, 1)], halves), False)
        self.assertIs(rows_within([(0, 1)], halves + [(2 ** 198 - 1, 2 ** 198)]), True)

    def test_rows_of_great_steps_that_share_divisors(self):
        chance = random.Random(61)
        for _ in range(30):
            scale, shift = chance.randrange(10 ** 50), chance.randrange(10 ** 40)
            rows = [(shift + (scale + 1) * first, (scale + 1) * step) for first, step in split_up(chance, 30)]
            whole = [(shift % (scale + 1), scale + 1)]
            rows = [(first % step, step) for first, step in rows]
            self.assertIs(same_rows(rows, whole), True)
            self.assertIs(same_rows(rows[1:], whole), False)
            self.assertIs(rows_within(rows[1:], whole), True)

    def test_two_hundred_rows(self):
        chance = random.Random(62)
        for _ in range(10):
            rows = split_up(chance, 190)[:200]
            self.assertIs(rows_within([(0, 1)], rows), True)
            self.assertIs(rows_within([(0, 1)], rows[:100] + rows[101:]), False)
            together = self.told(rows_together(rows[:100], rows[100:]))
            self.assertEqual(len(together), len(rows))
        odd = [(chance.randrange(10 ** 58), 10 ** 58 + chance.randrange(10 ** 58)) for _ in range(200)]
        self.assertIs(same_rows(odd, odd[::-1]), True)
        self.assertIs(rows_within(odd, odd[1:]), False)
        met = rows_met(odd, [(0, 1)] * 200)
        self.assertEqual(met, sorted(odd))
        for first, step in rows_met(odd[:20], odd[20:40])[:50]:
            for number in (first, first - step, first + step * HUGE):
                self.assertTrue(has(odd[:20], number) and has(odd[20:40], number))


class Least(unittest.TestCase):
    def test_one_form_for_the_same_numbers(self):
        chance = random.Random(63)
        for _ in range(600):
            rows = some_rows(chance, 6, chance.choice(STEPS))
            least = least_rows(rows)
            numbers = numbers_for(rows, least)
            self.assertTrue(all(has(rows, number) == has(least, number) for number in numbers))
            otherwise = rows_together(rows, rows[:2])
            if rows:
                first, step = otherwise.pop(chance.randrange(len(otherwise)))
                otherwise += [(first, step)] if step == 0 else [(first, 2 * step), (first + step, 2 * step)]
            chance.shuffle(otherwise)
            self.assertEqual(least_rows(otherwise), least)
            self.formed(rows, least, numbers)

    def formed(self, rows, least, numbers):
        steady = [row for row in least if row[1] > 0]
        singles = [row for row in least if row[1] == 0]
        self.assertEqual(least, sorted(steady) + sorted(singles))
        self.assertFalse([first for first, _ in singles if has(steady, first)])
        for step in range(1, steady[0][1] if steady else 1):
            # No less step moves the rows with steps on to themselves.
            self.assertTrue(any(has(steady, number) != has(steady, number + step) for number in numbers))
        self.assertEqual(len({step for _, step in steady}), 1 if steady else 0)

    def test_without_steps(self):
        self.assertEqual(least_rows([(3, 0), (-2, 0), (3, 0)]), [(-2, 0), (3, 0)])
        self.assertEqual(least_rows(()), [])

    def test_all_numbers(self):
        self.assertEqual(least_rows([(1, 2), (4, 0), (0, 4), (2, 4)]), [(0, 1)])

    def test_common_multiples(self):
        self.assertEqual(least_rows([(0, 16), (3, 125), (5, 0)]),
                         sorted([(first, 2000) for first in range(2000) if first % 16 == 0 or first % 125 == 3])
                         + [(5, 0)])
        self.assertEqual(len(least_rows([(0, 1999)])), 1)
        for rows in ([(0, 3), (0, 23), (1, 29)], [(0, 2001)], [(1, HUGE)], [(0, 2), (0, 1001)]):
            with self.assertRaises(TooMany) as caught:
                least_rows(rows)
            self.assertEqual(caught.exception.most, 2000)


if __name__ == "__main__":
    unittest.main()
