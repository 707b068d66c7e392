"""[2] (e), [61], [62] Patterns: walks with k pulls in them."""

import itertools
import random
import unittest

from pulledrooms.classes import is_row
from pulledrooms.errors import BadHouse, BadNumber, BadPairing, BadPattern, Elsewhere, NotHome
from pulledrooms.forms import are_one, is_nothing, plain_form
from pulledrooms.houses import House
from pulledrooms.patterns import (filled, is_pattern, nothing_for, one_for, paired_for, pairings, shortest_for)
from pulledrooms.walks import is_walk
from tests.helper import (ALONE, HUGE, ODD, PAIR, RING, SINGLE, fill, houses_by_chance, in_row, rooms_of, shorten,
                          some_pattern, spots)

DOUBLE = House(1, ((0, 1, 0, 2),))
EXAMPLE = (0, ((0, 0), (1, 0), (0, -3)), ((0, 0), (0, 1)))
THERE, BACK = (0, 0), (0, 1)
EIGHT = (THERE, BACK) * 4
KS = tuple(range(-25, 26)) + (60, 72, -144, 10 ** 20, -6 ** 30, HUGE, 10 ** 60 - 16)
FAR = (0, ((1, 0), (0, 2)), (THERE,))


def pairings_here(passes):
    """All ways to make pairs of the passes, each tried, as tuples of mates."""
    found = []
    for mates in itertools.product(range(len(passes)), repeat=len(passes)):
        pairs = [(one, other) for one, other in enumerate(mates) if one < other]
        if any(mates[other] != one or one == other for one, other in enumerate(mates)):
            continue
        if any(passes[other] != (passes[one][0], 1 - passes[one][1]) for one, other in pairs):
            continue
        if any(one < start < other < stop for one, other in pairs for start, stop in pairs):
            continue
        found.append(mates)
    return found


def can_be_paired(house, walk, pairing):
    """Whether the walk can be shortened at all pairs, the inner ones first; the pulls left, too."""
    names = list(range(len(pairing)))
    while names:
        at = next(at for at in range(len(names) - 1) if pairing[names[at]] == names[at + 1])
        if at not in spots(house, walk):
            return False
        walk = shorten(house, walk, at)
        names[at:at + 2] = []
    return True


class Patterns(unittest.TestCase):
    def test_what_is_a_pattern(self):
        nine = ((0, 0),) * 10
        for pattern in (EXAMPLE, FAR, (0, ((999, -999),), ()), (0, nine[1:], EIGHT)):
            self.assertIs(is_pattern(DOUBLE, pattern), True, pattern)
        for thing in ODD + (
                (0, nine, EIGHT + (THERE,)), (0, ((1000, 0),), ()), (0, ((0, -1000),), ()), (0, ((0, True),), ()),
                (0, ((False, 0),), ()), (0, ((0, 0, 0),), ()), (0, ([0, 0],), ()), (0, [(0, 0)], ()), (0, ((0, 0),), []),
                (0, (0,), ()), (0, (), ()), (0, ((0, 0),), (THERE,)), (1, ((0, 0),), ()), (False, ((0, 0),), ()),
                [0, ((0, 0),), ()], (0, ((0, 0), (0, 0)), ((0, True),)), (0, ((0, 0), (0, 0)), ((1, 0),))):
            self.assertIs(is_pattern(DOUBLE, thing), False, thing)
            for asked in (filled, nothing_for, one_for, pairings, paired_for, shortest_for):
                with self.assertRaises(BadPattern):
                    asked(*(DOUBLE, thing, None)[:asked.__code__.co_argcount])
            with self.assertRaises(BadPattern):
                one_for(DOUBLE, FAR, thing)
        self.assertIs(is_pattern(PAIR, (0, ((0, 0),) * 3, ((0, 0), (0, 0)))), False)
        with self.assertRaises(BadHouse):
            is_pattern(None, EXAMPLE)

    def test_filled(self):
        self.assertEqual(filled(DOUBLE, EXAMPLE, -7), (0, (0, -7, -3), EXAMPLE[2]))
        self.assertEqual(filled(DOUBLE, (0, ((-999, 999), (2, 1)), (THERE,)), HUGE),
                         (0, (999 - 999 * HUGE, 2 * HUGE + 1), (THERE,)))
        self.assertEqual(filled(ALONE, (0, ((3, -1),), ()), 0), (0, (-1,), ()))
        for number in (True, None, "1", (1,), [1]):
            with self.assertRaises(BadNumber):
                filled(DOUBLE, EXAMPLE, number)
        for chance, house in houses_by_chance(60, 50):
            pattern = some_pattern(chance, house, 8)
            number = chance.choice(KS)
            self.assertEqual(filled(house, pattern, number), fill(pattern, number))
            self.assertTrue(is_walk(house, filled(house, pattern, number)))

    def test_errors(self):
        for asked in (nothing_for, pairings):
            with self.assertRaises(NotHome):
                asked(PAIR, FAR)
        with self.assertRaises(NotHome):
            paired_for(PAIR, FAR, None)
        for pattern, other in ((FAR, EXAMPLE), (EXAMPLE, FAR), (FAR, (1, ((0, 0),), ())), ((1, ((0, 0),), ()), EXAMPLE)):
            with self.assertRaises(Elsewhere):
                one_for(PAIR, pattern, other)
        for thing in ODD + ([1, 0], (0, 1), (1, False), (True, 0), (), (1, 0, 2), ((1, 0),), (-1, 0)):
            if thing != (1, 0):
                with self.assertRaises(BadPairing):
                    paired_for(DOUBLE, EXAMPLE, thing)


class Rows(unittest.TestCase):
    def judged(self, rows, right, numbers=KS):
        """Judges rows of the numbers for which right is so."""
        self.assertTrue(type(rows) is list and rows == sorted(set(rows)) and all(is_row(row) for row in rows))
        found = 0
        for number in set(numbers) | {first + step * times for first, step in rows for times in (-9, -1, 0, 1, 5)}:
            self.assertIs(any(in_row(row, number) for row in rows), right(number), (number, rows))
            found += right(number)
        return (bool(rows), bool(rows) and rows[-1][1] > 0)

    def test_nothing(self):
        told = []
        for chance, house in houses_by_chance(61, 700, numbers=(1, 2, 3, 4, 6), most_rooms=3):
            pattern = some_pattern(chance, house, 8, home=True)
            rows = nothing_for(house, pattern)
            told.append(self.judged(rows, lambda k: is_nothing(house, fill(pattern, k))))
        self.assertGreater(min(told.count(kind) for kind in ((False, False), (True, False), (True, True))), 30)

    def test_one(self):
        told = []
        for chance, house in houses_by_chance(62, 500, numbers=(1, 2, 3), most_rooms=3):
            pattern = some_pattern(chance, house, 8)
            pulls = tuple((times + chance.choice((0, 0, 0, 1)), more + chance.choice((0, 0, 0, -1)))
                          for times, more in pattern[1])
            other = (pattern[0], pulls, pattern[2])
            if chance.random() < 0.4:
                other = some_pattern(chance, house, 8, room=pattern[0])
                if rooms_of(house, other)[-1] != rooms_of(house, pattern)[-1]:
                    continue
            rows = one_for(house, pattern, other)
            told.append(self.judged(rows, lambda k: are_one(house, fill(pattern, k), fill(other, k))))
            self.assertEqual(one_for(house, pattern, pattern), [(0, 1)])
        self.assertGreater(min(told.count(kind) for kind in ((False, False), (True, False), (True, True))), 30)

    def test_shortest(self):
        for chance, house in houses_by_chance(63, 500, numbers=(1, 2, 3, 4), most_rooms=3):
            pattern = some_pattern(chance, house, 8)
            many, rows = shortest_for(house, pattern)
            self.assertTrue(rows)
            self.judged(rows, lambda k: len(plain_form(house, fill(pattern, k))[2]) == many)
            self.assertTrue(all(len(plain_form(house, fill(pattern, k))[2]) >= many for k in KS))

    def test_pairings_by_trying_all(self):
        lengths = []
        for chance, house in houses_by_chance(64, 60, most_rooms=2):
            pattern = some_pattern(chance, house, 6, home=True)
            if len(pattern[2]) < 7:
                found = pairings(house, pattern)
                self.assertEqual(found, pairings_here(pattern[2]))
                lengths.append(len(found))
        self.assertTrue({0, 1, 2} <= set(lengths))
        pattern = (0, ((1, 0),) * 9, EIGHT)
        self.assertEqual(pairings(SINGLE, (0, pattern[1][:7], EIGHT[:6])), pairings_here(EIGHT[:6]))
        found = pairings(SINGLE, pattern)
        self.assertEqual((len(found), found), (14, sorted(set(found))))
        self.assertEqual(pairings(SINGLE, (0, ((1, 0),), ())), [()])
        self.assertEqual(pairings(SINGLE, (0, ((1, 0),) * 3, (THERE, THERE))), [])
        self.assertEqual(pairings(SINGLE, (0, ((1, 0),) * 2, (THERE,))), [])

    def test_paired_by_shortenings(self):
        told = []
        for chance, house in houses_by_chance(65, 300, numbers=(1, 2, 3, 4), most_rooms=2):
            pattern = some_pattern(chance, house, 8, home=True)
            for pairing in pairings(house, pattern):
                rows = paired_for(house, pattern, pairing)
                told.append(self.judged(rows, lambda k: can_be_paired(house, fill(pattern, k), pairing)))
                nothing = [k for k in KS if any(in_row(row, k) for row in rows) and is_nothing(house, fill(pattern, k))]
                ends_with_0 = [k for k in nothing if self.left(house, fill(pattern, k), pairing) == 0]
                if len(ends_with_0) > 1:
                    self.assertTrue(all(is_nothing(house, fill(pattern, k)) for k in KS
                                        if any(in_row(row, k) for row in rows)))
        self.assertGreater(min(told.count(kind) for kind in ((False, False), (True, True))), 30)

    def left(self, house, walk, pairing):
        names = list(range(len(pairing)))
        while names:
            at = next(at for at in range(len(names) - 1) if pairing[names[at]] == names[at + 1])
            walk = shorten(house, walk, at)
            names[at:at + 2] = []
        return walk[1][0]

    def test_example(self):
        self.assertEqual(pairings(DOUBLE, EXAMPLE), [(1, 0)])
        self.assertEqual(paired_for(DOUBLE, EXAMPLE, (1, 0)), [(0, 2)])
        self.assertEqual(nothing_for(DOUBLE, EXAMPLE), [(6, 0)])
        self.assertEqual(shortest_for(DOUBLE, EXAMPLE), (0, [(0, 2)]))

    def test_pulls_alone(self):
        self.assertEqual(nothing_for(ALONE, (0, ((0, 0),), ())), [(0, 1)])
        self.assertEqual(nothing_for(ALONE, (0, ((0, 4),), ())), [])
        self.assertEqual(nothing_for(ALONE, (0, ((-3, 12),), ())), [(4, 0)])
        self.assertEqual(nothing_for(ALONE, (0, ((3, 13),), ())), [])
        self.assertEqual(paired_for(ALONE, (0, ((3, 13),), ()), ()), [(0, 1)])
        self.assertEqual(shortest_for(ALONE, (0, ((3, 13),), ())), (0, [(0, 1)]))
        self.assertEqual(one_for(ALONE, (0, ((5, 1),), ()), (0, ((2, -11),), ())), [(-4, 0)])

    def test_steps_and_single_numbers_that_are_great(self):
        house = House(1, ((0, 1, 0, 997), (0, 1, 0, 991), (0, 983, 0, 1), (0, 977, 0, 2)))
        passes = ((1, 0), (1, 1), (2, 1), (2, 0), (0, 0), (0, 1), (3, 1), (3, 0))
        pattern = (0, ((0, 0), (1, 5), (0, 0), (1, -3), (0, 0), (1, 0), (0, 0), (1, 8), (0, 0)), passes)
        self.assertEqual(paired_for(house, pattern, (1, 0, 3, 2, 5, 4, 7, 6))[0][1], 997 * 991 * 983 * 977)
        for pairing in pairings(house, pattern):
            rows = paired_for(house, pattern, pairing)
            self.judged(rows, lambda k: can_be_paired(house, fill(pattern, k), pairing))
        self.judged(nothing_for(house, pattern), lambda k: is_nothing(house, fill(pattern, k)))
        deep = House(1, ((0, 1, 0, 999),))
        nest = (0, ((0, 0),) * 4 + ((1, 0),) + ((0, 0),) * 3 + ((0, -1),), (THERE,) * 4 + (BACK,) * 4)
        self.assertEqual(paired_for(deep, nest, (7, 6, 5, 4, 3, 2, 1, 0)), [(0, 999 ** 4)])
        self.assertEqual(nothing_for(deep, nest), [(999 ** 4, 0)])
        self.assertEqual(shortest_for(deep, nest), (0, [(0, 999 ** 4)]))

    def test_rooms_on_a_ring(self):
        chance = random.Random(66)
        for _ in range(60):
            pattern = some_pattern(chance, RING, 8, home=True)
            self.judged(nothing_for(RING, pattern), lambda k: is_nothing(RING, fill(pattern, k)))


if __name__ == "__main__":
    unittest.main()
