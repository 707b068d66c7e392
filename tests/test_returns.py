"""[2] (f), [72] Returns of ropes, fitting numbers, bounded primes."""

import itertools
import random
import unittest
from math import lcm

from pulledrooms.errors import BadFitting, BadHall, BadHouse, BadPrime, TooMany
from pulledrooms.halls import Hall
from pulledrooms.houses import House
from pulledrooms.returns import (are_fitting, bounded_primes, deep_part, greatest_power, hall_of_returns, returns_of)
from tests.helper import (ALONE, GREAT, HUGE, ODD, PAIR, RING, SINGLE, TWINS, all_passes, ends, fit_here,
                          fitting_here, houses_by_chance, primes_here, pull_all, rounds_here, some_hall, times_in,
                          way_between)

EXAMPLE = House(1, ((0, 4, 0, 6),))
LINE = House(3, ((0, 2, 1, 3), (1, 4, 2, 9)))


def stretched_by(house):
    """The primes by which the walk from room 0 over some door and home again stretches."""
    found = set()
    for door, (near, _, far, _) in enumerate(house.doors):
        top, bottom = 1, 1
        homeward = tuple((other, 1 - side) for other, side in reversed(way_between(house, 0, far)))
        for step in way_between(house, 0, near) + ((door, 0),) + homeward:
            _, leaving, _, arriving = ends(house, step)
            top, bottom = top * arriving, bottom * leaving
        found |= {prime for prime in primes_here(house) if times_in(prime, top) != times_in(prime, bottom)}
    return sorted(found)


class Returns(unittest.TestCase):
    def test_by_pulling(self):
        for chance, house in houses_by_chance(80, 80, most_rooms=3, numbers=(1, 2, 3, 4)):
            hall = some_hall(chance, house, parts=3)
            found = returns_of(hall)
            self.assertIsInstance(found, tuple)
            still = tuple(range(hall.seats))
            for rope, many in zip(hall.ropes, found):
                self.assertEqual([times for times in range(1, many + 1) if pull_all(rope, times) == still], [many])
            self.assertIs(are_fitting(house, found), True)
        self.assertEqual(returns_of(Hall(ALONE, ((1, 0, 3, 4, 2, 6, 7, 8, 5, 9),), ())), (12,))
        for thing in ODD:
            with self.assertRaises(BadHall):
                returns_of(thing)


class Fitting(unittest.TestCase):
    def test_by_the_rule(self):
        told = []
        for chance, house in houses_by_chance(81, 150, most_rooms=3, numbers=(1, 2, 3, 4, 6)):
            for _ in range(10):
                numbers = chance.choice(fitting_here(house, 6))
                if chance.random() < 0.6:
                    at = chance.randrange(house.rooms)
                    numbers = numbers[:at] + (chance.randint(1, 12),) + numbers[at + 1:]
                self.assertIs(are_fitting(house, numbers), fit_here(house.doors, numbers))
                told.append(are_fitting(house, numbers))
        self.assertGreater(min(told.count(True), told.count(False)), 100)

    def test_example_and_values_of_other_kinds(self):
        self.assertEqual([number for number in range(1, 12) if are_fitting(EXAMPLE, (number,))], [1, 2, 5, 7, 10, 11])
        self.assertIs(are_fitting(EXAMPLE, (5 * 7 ** 60,)), True)
        self.assertIs(are_fitting(ALONE, (HUGE,)), True)
        for thing in ODD + ((0,), (-5,), (True,), [5], ("5",), (5, 5), (None,), ((5,),), {0: 5}):
            self.assertIs(are_fitting(EXAMPLE, thing), False, thing)
            with self.assertRaises(BadFitting):
                hall_of_returns(EXAMPLE, thing)
        for thing in ((4,), (3,), (6,)):
            with self.assertRaises(BadFitting):
                hall_of_returns(EXAMPLE, thing)

    def test_halls_of_all_fitting_numbers(self):
        for _, house in houses_by_chance(82, 60, most_rooms=3, numbers=(1, 2, 3, 4, 6, 9)):
            for fitting in fitting_here(house, 6):
                self.judged(house, fitting)
        for fitting in ((12, 18, 8), (6, 9, 4), (2, 3, 81), (60, 90, 40)):
            if fit_here(LINE.doors, fitting):
                self.judged(LINE, fitting)
        self.judged(RING, (1, 1, 1, 1))

    def judged(self, house, fitting):
        hall = hall_of_returns(house, fitting)
        self.assertEqual((hall.house, hall.seats), (house, lcm(*fitting)))
        for rope, number in zip(hall.ropes, fitting):
            self.assertEqual({len(seats) for seats in rounds_here(rope)}, {number})
        self.assertEqual(returns_of(hall), fitting)

    def test_five_thousand_seats_and_more(self):
        self.assertEqual(returns_of(hall_of_returns(ALONE, (5000,))), (5000,))
        self.judged(House(2, ((0, 8, 1, 625),)), (8, 625))
        self.judged(House(1, ((0, 1, 0, -1), (0, 7, 0, 21))), (5000,))
        for house, fitting in ((ALONE, (5001,)), (ALONE, (HUGE,)), (House(2, ((0, 3, 1, 999),)), (1667, 1667 * 3)),
                               (House(2, ((0, 8, 1, 625),)), (8 * HUGE, HUGE))):
            self.assertTrue(fit_here(house.doors, fitting))
            with self.assertRaises(TooMany) as caught:
                hall_of_returns(house, fitting)
            self.assertEqual(caught.exception.most, 5000)


class Primes(unittest.TestCase):
    def test_example(self):
        self.assertEqual(bounded_primes(EXAMPLE), [2, 3])
        self.assertEqual([greatest_power(EXAMPLE, prime) for prime in (2, 3, 5)], [(1,), (0,), None])
        self.assertEqual(deep_part(EXAMPLE), (2,))

    def test_greatest_powers(self):
        bounded = 0
        for _, house in houses_by_chance(83, 250, most_rooms=3, numbers=(1, 2, 3, 4, 6, 8, 12, 18, 36)):
            for prime in (2, 3, 5):
                bounded += self.judged(house, prime)
        for house in (PAIR, TWINS, SINGLE, LINE, GREAT, ALONE):
            for prime in (2, 3, 5, 997):
                self.judged(house, prime)
        self.assertGreater(bounded, 200)

    def judged(self, house, prime):
        """Judges greatest_power by the told rule; tells whether there is one."""
        powers = greatest_power(house, prime)
        self.assertEqual(powers is not None, prime in stretched_by(house))
        if powers is None:
            self.assertTrue(fit_here(house.doors, self.far_up(house, prime)))
            return False
        self.assertIsInstance(powers, tuple)
        self.assertTrue(self.fit(house, prime, powers))
        self.assertTrue(fit_here(house.doors, tuple(prime ** times for times in powers)))
        # The greater ones of two such tuples are such a tuple, too; so none is greater in one place alone.
        for more in itertools.product(*[range(times, times + 4) for times in powers]):
            if more != powers:
                self.assertFalse(self.fit(house, prime, more))
                self.assertFalse(fit_here(house.doors, tuple(prime ** times for times in more)))
        return True

    def fit(self, house, prime, exponents):
        for step in all_passes(house):
            room, leaving, there, arriving = ends(house, step)
            most = times_in(prime, leaving) + max(0, exponents[there] - times_in(prime, arriving))
            if exponents[room] > most:
                return False
        return True

    def far_up(self, house, prime):
        """Numbers with the prime 50 times or so, so that what a door takes at one side it gives at the other."""
        found = []
        for room in range(house.rooms):
            times = 50
            for step in way_between(house, 0, room):
                times += times_in(prime, ends(house, step)[3]) - times_in(prime, ends(house, step)[1])
            found.append(prime ** times)
        return tuple(found)

    def test_rings_and_many_rooms(self):
        self.assertEqual(bounded_primes(RING), stretched_by(RING))
        chain = tuple((room, 512, room + 1, 1) for room in range(11))
        house = House(12, chain + ((11, 512, 11, 1),))
        powers = greatest_power(house, 2)
        self.assertTrue(self.fit(house, 2, powers))
        self.assertEqual(powers, tuple(99 - 9 * room for room in range(12)))
        house = House(12, tuple((room, 1, room + 1, 512) for room in range(11)) + ((0, 256, 0, 512),))
        powers = greatest_power(house, 2)
        self.assertTrue(self.fit(house, 2, powers))
        self.assertEqual(powers, tuple(8 + 9 * room for room in range(12)))

    def test_bounded_primes_by_round_walks(self):
        for _, house in houses_by_chance(84, 300, numbers=(1, 2, 3, 4, 6, 10, 14, 22, 997)):
            found = bounded_primes(house)
            self.assertIsInstance(found, list)
            self.assertEqual(found, stretched_by(house))
            self.assertEqual(found, [prime for prime in primes_here(house) if greatest_power(house, prime) is not None])
            deep = [1] * house.rooms
            for prime in found:
                deep = [number * prime ** times for number, times in zip(deep, greatest_power(house, prime))]
            self.assertEqual(deep_part(house), tuple(deep))
            self.assertTrue(fit_here(house.doors, tuple(deep)))
        self.assertEqual((bounded_primes(ALONE), deep_part(ALONE)), ([], (1,)))
        self.assertEqual((bounded_primes(TWINS), deep_part(TWINS)), ([], (1, 1)))

    def test_errors(self):
        for prime in (1, 0, -2, 4, 9, 961, 998, 1009, 10 ** 59, True, None, "2", (2,), [2]):
            with self.assertRaises(BadPrime):
                greatest_power(SINGLE, prime)
        for prime in (2, 3, 5, 991, 997):
            self.assertEqual(greatest_power(SINGLE, prime), (0,) if prime < 5 else None)
        with self.assertRaises(BadHouse):
            greatest_power(None, None)


if __name__ == "__main__":
    unittest.main()
