"""[2] (e), [63], [64] Patterns for all k: plain forms, seats led, dead walks."""

import random
import unittest
from math import gcd

from pulledrooms.classes import is_row, rows_within
from pulledrooms.errors import BadHall, BadHouse, BadPattern, BadSeat, NotHome, TooMany
from pulledrooms.everyk import dead_for, forms_for, seat_for
from pulledrooms.forms import is_nothing, plain_form
from pulledrooms.halls import Hall
from pulledrooms.houses import House
from pulledrooms.patterns import nothing_for, shortest_for
from pulledrooms.ratios import lengths_of
from pulledrooms.returns import deep_part, returns_of
from pulledrooms.wide import is_dead
from tests.helper import (ALONE, HUGE, ODD, PAIR, SINGLE, ends, fill, houses_by_chance, in_row, lead_seat, rooms_of,
                          some_hall, some_pattern)

DOUBLE = House(1, ((0, 1, 0, 2),))
EXAMPLE = (0, ((0, 0), (1, 0), (0, -3)), ((0, 0), (0, 1)))
DEEP = House(1, ((0, 4, 0, 6), (0, 5, 0, 5)))
# Houses of one or two rooms whose deep parts are above 1; in some of them not all primes are bounded.
RESTS = (House(1, ((0, 4, 0, 6),)), House(1, ((0, 9, 0, 6),)), House(1, ((0, 20, 0, 30),)), House(1, ((0, 45, 0, 30),)),
         House(1, ((0, 16, 0, 24),)), House(1, ((0, 54, 0, -27),)), House(2, ((0, 4, 1, 6), (0, 10, 1, 15), (1, 9, 1, 27))))
KS = tuple(range(-25, 26)) + (72, -144)
GREAT_KS = (10 ** 20, -6 ** 30, HUGE, 10 ** 60 - 16)


def sizes_of(house, pattern):
    product = 1
    for step in pattern[2]:
        product *= abs(ends(house, step)[1])
    return product


class Forms(unittest.TestCase):
    def judged(self, house, pattern):
        told = forms_for(house, pattern)
        self.assertIsInstance(told, list)
        self.assertEqual(told, sorted(told))
        for row, form in told:
            self.assertTrue(is_row(row) and row[1] > 0)
            room, pulls, passes = form
            self.assertEqual((room, len(pulls)), (pattern[0], len(passes) + 1))
            self.assertTrue(all(times == 0 for times, _ in pulls[:-1]))
        for number in KS + GREAT_KS:
            found = [(number - first) // step for (first, step), _ in told if number % step == first]
            self.assertEqual(len(found), 1)
            form = next(form for row, form in told if in_row(row, number))
            self.assertEqual(fill(form, found[0]), plain_form(house, fill(pattern, number)))
        return told

    def test_by_plain_forms(self):
        told = 0
        for chance, house in houses_by_chance(100, 250, most_rooms=3, numbers=(1, 2, 3, 4)):
            pattern = some_pattern(chance, house, 8)
            if sizes_of(house, pattern) <= 2000:
                forms = self.judged(house, pattern)
                shortest = min(len(form[2]) for _, form in forms)
                self.assertEqual(shortest_for(house, pattern)[0], shortest)
                told += len(forms) > 1
        self.assertGreater(told, 60)

    def test_example(self):
        told = forms_for(DOUBLE, EXAMPLE)
        self.assertEqual(told, [((0, 2), (0, ((1, -3),), ())),
                                ((1, 2), (0, ((0, 0), (0, 1), (1, -3)), ((0, 0), (0, 1))))])
        self.judged(DOUBLE, EXAMPLE)
        self.assertEqual([form for _, form in forms_for(ALONE, (0, ((-3, 7),), ()))], [(0, ((-3, 7),), ())])

    def test_two_thousand_and_above(self):
        for numbers, right in (((40, 50), True), ((-50, 40), True), ((23, 87), False), ((1, 999), True),
                               ((3, 667), False), ((-3, 667), False)):
            house = House(1, ((0, numbers[0], 0, 7), (0, 3, 0, numbers[1])))
            pattern = (0, ((1, 0), (2, 1), (-1, 5)), ((0, 0), (1, 1)))
            if right:
                self.judged(house, pattern)
            else:
                with self.assertRaises(TooMany) as caught:
                    forms_for(house, pattern)
                self.assertEqual(caught.exception.most, 2000)

    def test_errors(self):
        for thing in ODD + ((0, (0, 1, -3), EXAMPLE[2]), (0, ((1000, 0),), ())):
            with self.assertRaises(BadPattern):
                forms_for(DOUBLE, thing)
        with self.assertRaises(BadHouse):
            forms_for(None, None)
        self.assertEqual(len(forms_for(PAIR, (0, ((1, 0), (0, 0)), ((0, 0),)))), 2)


class Seats(unittest.TestCase):
    def test_by_leading(self):
        some = never = always = 0
        for chance, house in houses_by_chance(101, 200, most_rooms=3, numbers=(1, 2, 3, 4)):
            hall = some_hall(chance, house, parts=3)
            pattern = some_pattern(chance, house, 6, home=True)
            seat = chance.randrange(hall.seats)
            rows = seat_for(hall, pattern, seat)
            self.assertTrue(rows == sorted(set(rows)) and all(is_row(row) for row in rows))
            for number in range(-14, 15):
                right = lead_seat(hall, fill(pattern, number), seat) == seat
                self.assertIs(any(in_row(row, number) for row in rows), right)
            for first, step in rows[:4]:
                self.assertGreater(step, 0)
            shown = len([number for number in range(12) if any(in_row(row, number) for row in rows)])
            some, never, always = some + (0 < shown < 12), never + (shown == 0), always + (shown == 12)
            dead = dead_for(house, pattern)
            if len(dead) <= 200 and len(rows) <= 200:
                self.assertIs(rows_within(dead, rows), True)
        self.assertGreater(min(some, never, always), 15)

    def test_great_pulls_and_rounds(self):
        rope = tuple((seat + 1) % 1999 for seat in range(1999))
        hall = Hall(ALONE, (rope,), ())
        self.assertEqual(seat_for(hall, (0, ((7, -14),), ()), 5), [(2, 1999)])
        self.assertEqual(seat_for(hall, (0, ((0, 0),), ()), 1998), [(0, 1)])
        self.assertEqual(seat_for(hall, (0, ((0, 1),), ()), 1998), [])
        for seats, right in ((2000, True), (2001, False)):
            hall = Hall(ALONE, (tuple((seat + 1) % seats for seat in range(seats)),), ())
            if right:
                self.assertEqual(seat_for(hall, (0, ((1, 0),), ()), 0), [(0, seats)])
                continue
            with self.assertRaises(TooMany) as caught:
                seat_for(hall, (0, ((1, 0),), ()), 0)
            self.assertEqual(caught.exception.most, 2000)
            # Without k the return does not matter.
            self.assertEqual(seat_for(hall, (0, ((0, 0),), ()), 7), [(0, 1)])
            self.assertEqual(seat_for(hall, (0, ((0, 999),), ()), 7), [])

    def test_only_rooms_with_k_count(self):
        house = House(2, ((0, 37, 1, 41),))
        ropes = tuple(tuple(seat + 1 if (seat + 1) % length else seat + 1 - length for seat in range(37 * 41))
                      for length in (37, 41))
        hall = Hall(house, ropes, (tuple(range(37 * 41)),))
        self.assertEqual(returns_of(hall), (37, 41))
        there = (0, ((1, 0), (0, 4), (0, 0)), ((0, 0), (0, 1)))
        for rows, pulls in ((37, ((1, 0), (0, 0), (0, 0))), (41, ((0, 0), (1, 0), (0, 0))), (37 * 41, ((1, 0), (1, 0), (0, 0)))):
            found = seat_for(hall, (0, pulls, there[2]), 0)
            self.assertEqual({step for _, step in found}, {rows})
            for number in range(0, 80):
                right = lead_seat(hall, fill((0, pulls, there[2]), number), 0) == 0
                self.assertIs(any(in_row(row, number) for row in found), right)

    def test_errors(self):
        hall = Hall(DOUBLE, ((1, 2, 0),), ((0, 2, 1),))
        self.assertEqual(seat_for(hall, EXAMPLE, 2), [(0, 3)])
        wide = Hall(PAIR, ((0,),) * 2, ((0,),) * 2)
        for thing in ODD + (DOUBLE,):
            with self.assertRaises(BadHall):
                seat_for(thing, None, None)
        for thing in ODD + ((0, ((0, 0), (0, 0)), ((1, 0),)), (1, ((0, 0),), ())):
            with self.assertRaises(BadPattern):
                seat_for(hall, thing, None)
        with self.assertRaises(NotHome):
            seat_for(wide, (0, ((0, 0), (0, 0)), ((0, 0),)), None)
        for seat in (3, -1, True, None, "0", (0,), HUGE):
            with self.assertRaises(BadSeat):
                seat_for(hall, EXAMPLE, seat)
        long = Hall(ALONE, (tuple((seat + 1) % 2001 for seat in range(2001)),), ())
        with self.assertRaises(BadSeat):
            seat_for(long, (0, ((1, 0),), ()), 2001)


class Dead(unittest.TestCase):
    def judged(self, house, pattern):
        """Judges dead_for; tells whether it is more than nothing_for, and whether it has rows with steps."""
        rows, nothing = dead_for(house, pattern), nothing_for(house, pattern)
        self.assertTrue(rows == sorted(set(rows)) and all(is_row(row) for row in rows))
        numbers = KS + GREAT_KS + tuple(first + step * times for first, step in rows[:5] for times in (-3, 0, 1))
        more = False
        for number in numbers:
            right = is_dead(house, fill(pattern, number))
            self.assertIs(any(in_row(row, number) for row in rows), right, (house.doors, pattern, number))
            if any(in_row(row, number) for row in nothing):
                self.assertTrue(right)
            more = more or right and not is_nothing(house, fill(pattern, number))
        if lengths_of(house) is not None:
            self.assertFalse(more)
        return more, bool(rows) and rows[-1][1] > 0

    def test_by_dead_walks(self):
        told = []
        for chance, house in houses_by_chance(102, 250, most_rooms=3, numbers=(1, 2, 3, 4, 6)):
            told.append(self.judged(house, some_pattern(chance, house, 8, home=True)))
        chance = random.Random(103)
        for house in (SINGLE, DEEP, PAIR) + RESTS:
            for _ in range(40):
                told.append(self.judged(house, self.commuting(chance, house)))
                told.append(self.judged(house, self.led_over(chance, house)))
        self.assertGreater(told.count((True, True)), 15)
        self.assertGreater(told.count((False, True)), 15)
        self.assertGreater(told.count((False, False)), 15)

    def commuting(self, chance, house):
        """Pulls led over a pass, then others, then both back: dead far more often than nothing."""
        step = chance.choice([(door, side) for door in range(len(house.doors)) for side in (0, 1)
                              if ends(house, (door, side))[0] == ends(house, (door, side))[2]])
        there = (step[0], 1 - step[1])
        room = ends(house, step)[0]
        times, more = chance.choice((0, 1, 2, 3, -4)), chance.randint(-3, 3)
        one, other = (times, more), (chance.choice((0, 0, 1, 2)), chance.randint(-4, 4))
        return room, ((0, 0), one, other, (-one[0], -one[1]), (-other[0], -other[1])), (step, there, step, there)

    def led_over(self, chance, house):
        """Pulls with k led over a pass, less what they arrive as; sometimes less some more."""
        step = chance.choice([(door, side) for door in range(len(house.doors)) for side in (0, 1)])
        room, leaving, _, arriving = ends(house, step)
        divisor = gcd(leaving, arriving) * chance.choice((1, 1, 2))
        times, more = chance.choice((0, 1, 2, 3)), chance.randint(-4, 4)
        inner = (times * arriving // divisor, more * arriving // divisor)
        outer = (-times * leaving // divisor, -more * leaving // divisor + chance.choice((0, 0, 0, 1)))
        return room, ((0, 0), inner, outer), (step, (step[0], 1 - step[1]))

    def test_rests_and_numbers_together(self):
        # D is 2; two pulls between become three whole ones, but with the rest 0 in the place of 1.
        passes = ((0, 1), (0, 0))
        self.assertEqual(dead_for(DEEP, (0, ((0, 0), (2, 0), (0, -3)), passes)), [])
        self.assertEqual(dead_for(DEEP, (0, ((0, 0), (2, 0), (0, -6)), passes)), [(2, 0)])
        self.assertEqual(dead_for(DEEP, (0, ((0, 0), (2, 0), (-3, 0)), passes)), [(0, 2)])
        # D is 3 and 5 is not bounded: 5 divides 3 * k + 3, and 3 divides 2 * k + 2, as 0 is the rest that arrives.
        five = House(1, ((0, 45, 0, 30),))
        self.assertEqual(deep_part(five), (3,))
        self.assertEqual(dead_for(five, (0, ((0, 0), (3, 3), (-2, -2)), passes)), [(14, 15)])

    def test_example_and_by_hand(self):
        self.assertEqual(dead_for(DOUBLE, EXAMPLE), [(6, 0)])
        # k pulls over a door, one pull, k pulls back over it, one pull back: dead for all k, since D is 1.
        pattern = (0, ((0, 0), (1, 0), (0, 1), (-1, 0), (0, -1)), ((0, 1), (0, 0), (0, 1), (0, 0)))
        self.assertEqual((dead_for(SINGLE, pattern), nothing_for(SINGLE, pattern)), ([(0, 1)], [(0, 2)]))
        # In this house D is 2, and one of the passes takes the multiples of 6, the other all multiples of 2.
        walk = (0, ((0, 0), (1, 0), (0, 1), (-1, 0), (0, -1)), ((0, 0), (0, 1), (0, 0), (0, 1)))
        self.assertEqual((dead_for(DEEP, walk), nothing_for(DEEP, walk)), ([(0, 2)], [(0, 6)]))
        self.assertEqual(dead_for(ALONE, (0, ((2, -6),), ())), [(3, 0)])
        self.assertEqual(dead_for(DEEP, (0, ((3, 1),), ())), [])

    def test_errors(self):
        for thing in ODD + ((0, ((0, 0), (0, 0)), ((9, 0),)),):
            with self.assertRaises(BadPattern):
                dead_for(DOUBLE, thing)
        with self.assertRaises(NotHome):
            dead_for(PAIR, (0, ((0, 0), (0, 0)), ((0, 0),)))
        with self.assertRaises(BadHouse):
            dead_for(None, None)
        self.assertEqual(rooms_of(PAIR, (0, None, ((0, 0),))), [0, 1])


if __name__ == "__main__":
    unittest.main()
