"""[2] (g), [73], [74] Fine numbers, wide pulls and wide walks, dead walks."""

import random
import unittest
from fractions import Fraction
from math import gcd, lcm

from pulledrooms.errors import BadHouse, BadPass, BadSpot, BadWalk, BadWide, NotHome
from pulledrooms.forms import is_nothing, is_plain, plain_form
from pulledrooms.halls import parting_hall
from pulledrooms.houses import House
from pulledrooms.returns import bounded_primes, deep_part
from pulledrooms.wide import (are_dead_spots, as_wide, dead_spots, is_dead, is_wide, wide_arrived, wide_shortened,
                              wide_spots)
from tests.helper import (ALONE, HUGE, ODD, PAIR, SINGLE, all_passes, ends, fit_here, fitting_here, houses_by_chance,
                          lead_seat, put_together, rooms_of, some_hall, some_nothing, some_round, some_walk, turned_back,
                          way_between)

DEAD = (0, (1, 1, -1, -1, 0), ((0, 1), (0, 0), (0, 1), (0, 0)))
DEEP = House(1, ((0, 4, 0, 6), (0, 5, 0, 5)))
NUMBERS = (1, 2, 3, 4, 6, 8, 9, 12)


def worth(fine):
    return Fraction(*fine) if isinstance(fine, tuple) else Fraction(fine)


def fine_of(number):
    return (number.numerator, number.denominator) if number.denominator > 1 else number.numerator


def is_made_of(primes, number):
    for prime in primes:
        while number % prime == 0:
            number //= prime
    return abs(number) == 1


def arrived_here(house, step, wide):
    """What arrives, found by trying all numbers j for the rest; None if there is none."""
    room, leaving, there, arriving = ends(house, step)
    deep = deep_part(house)
    rest, fine = wide
    tried = {arriving * j % deep[there] for j in range(deep[room]) if (leaving * j - rest) % deep[room] == 0}
    plain = leaving
    for prime in bounded_primes(house):
        while plain % prime == 0:
            plain //= prime
    carried = worth(fine) / plain
    if not tried or not is_made_of(bounded_primes(house), carried.denominator):
        return None
    assert len(tried) == 1
    return tried.pop(), fine_of(worth(fine) * arriving / leaving)


def some_fine(chance, house, factors=()):
    number = Fraction(chance.randint(-12, 12) * chance.choice((1,) + tuple(factors)))
    for prime in bounded_primes(house):
        number /= prime ** chance.choice((0, 0, 0, 1, 3))
    return fine_of(number)


def some_wide_pulls(chance, house, room):
    numbers = [door[at] for door in house.doors for at in (1, 3)]
    depth = deep_part(house)[room]
    return chance.randrange(depth) * chance.choice((1, 1, 0)), some_fine(chance, house, numbers)


def some_wide(chance, house, passes):
    walk = some_walk(chance, house, passes, turns=0.7)
    wides = tuple(some_wide_pulls(chance, house, room) for room in rooms_of(house, walk))
    return walk[0], wides, walk[2]


def shorten_here(house, wide, spot):
    """The wide walk, shortened at spot, or None."""
    room, wides, passes = wide
    if spot + 1 >= len(passes) or passes[spot + 1] != (passes[spot][0], 1 - passes[spot][1]):
        return None
    arrived = arrived_here(house, passes[spot + 1], wides[spot + 1])
    if arrived is None:
        return None
    depth = deep_part(house)[rooms_of(house, (room, None, passes))[spot]]
    three = (wides[spot], arrived, wides[spot + 2])
    both = (sum(rest for rest, _ in three) % depth, fine_of(sum(worth(fine) for _, fine in three)))
    return room, wides[:spot] + (both,) + wides[spot + 3:], passes[:spot] + passes[spot + 2:]


def plain_lengths(house):
    """(lengths that fit the plain parts of the doors' numbers, least common multiple of what the doors make of them)."""
    primes = bounded_primes(house)
    lengths = []
    for room in range(house.rooms):
        length = Fraction(1)
        for step in way_between(house, 0, room):
            _, leaving, _, arriving = ends(house, step)
            length = length * plain(primes, leaving) / plain(primes, arriving)
        lengths.append(length)
    scale = lcm(*[length.denominator for length in lengths])
    divisor = gcd(*[int(length * scale) for length in lengths])
    lengths = [int(length * scale) // divisor for length in lengths]
    return lengths, lcm(*[plain(primes, first) * lengths[near] for near, first, _, _ in house.doors])


def plain(primes, number):
    for prime in primes:
        while number % prime == 0:
            number //= prime
    return abs(number)


def telling_numbers(house, walk):
    """Fitting numbers: if any hall shows the walk, one whose rounds are so long does ([75])."""
    wide, spot = as_wide(house, walk), 0
    while spot < len(wide[2]):
        shorter = shorten_here(house, wide, spot)
        wide, spot = (wide, spot + 1) if shorter is None else (shorter, 0)
    lengths, common = plain_lengths(house)
    times = 1
    (rest, fine), top = wide[1][-1], worth(wide[1][-1][1]).numerator
    if not wide[2] and rest == 0 and fine != 0:
        while any(times % prime == 0 for prime in bounded_primes(house)) or top % (common * times // lengths[walk[0]]) == 0:
            times += 1
    return tuple(deep * common * times // length for deep, length in zip(deep_part(house), lengths))


def left_by_rests(house, numbers, walk):
    """(passes, last rest) that are left of the walk when pulls are told apart only by their rests."""
    rooms = rooms_of(house, walk)
    kept, aheads = [], []
    here = walk[1][0] % numbers[walk[0]]
    for at, step in enumerate(walk[2]):
        room, leaving, there, arriving = ends(house, step)
        tried = [times for times in range(numbers[room]) if (leaving * times - here) % numbers[room] == 0]
        if kept and kept[-1] == (step[0], 1 - step[1]) and tried:
            kept.pop()
            here = aheads.pop() + arriving * tried[0]
        else:
            kept.append(step)
            aheads.append(here)
            here = 0
        here = (here + walk[1][at + 1]) % numbers[rooms[at + 1]]
    return kept, here


class WidePulls(unittest.TestCase):
    def test_arrived_by_trying(self):
        carried = refused = 0
        for chance, house in houses_by_chance(90, 500, most_rooms=3, numbers=NUMBERS):
            for step in all_passes(house):
                room, _, there, _ = ends(house, step)
                wide = some_wide_pulls(chance, house, room)
                found = wide_arrived(house, step, wide)
                self.assertEqual(found, arrived_here(house, step, wide))
                if found is None:
                    refused += 1
                    continue
                carried += 1
                backward = (step[0], 1 - step[1])
                self.assertTrue(is_wide(house, (there, (found,), ())))
                self.assertEqual(wide_arrived(house, backward, found), wide)
                other = some_wide_pulls(chance, house, room)
                if wide_arrived(house, step, other) is not None:
                    self.assertEqual(wide_arrived(house, step, self.sum(house, room, wide, other)),
                                     self.sum(house, there, found, wide_arrived(house, step, other)))
        self.assertGreater(min(carried, refused), 300)

    def sum(self, house, room, one, other):
        return (one[0] + other[0]) % deep_part(house)[room], fine_of(worth(one[1]) + worth(other[1]))

    def test_by_hand(self):
        self.assertEqual(wide_arrived(SINGLE, (0, 0), (0, 1)), (0, (3, 2)))
        self.assertEqual(wide_arrived(SINGLE, (0, 0), (0, (4, 3))), (0, 2))
        self.assertEqual(wide_arrived(SINGLE, (0, 1), (0, -HUGE)), (0, fine_of(Fraction(-2 * HUGE, 3))))
        # Bounded are 2 and 3, the deep part is 2: 5 must divide the top, 2 divides no rest but 0.
        self.assertEqual(wide_arrived(DEEP, (0, 0), (0, 1)), (0, (3, 2)))
        self.assertIsNone(wide_arrived(DEEP, (0, 0), (1, 1)))
        self.assertIsNone(wide_arrived(DEEP, (1, 0), (1, (7, 3))))
        self.assertEqual(wide_arrived(DEEP, (1, 0), (1, (5, 3))), (1, (5, 3)))
        # Without bounded primes wide pulls are whole pulls.
        line = House(2, ((0, 2, 1, 3),))
        self.assertEqual(wide_arrived(line, (0, 0), (0, 8)), (0, 12))
        self.assertIsNone(wide_arrived(line, (0, 0), (0, 7)))

    def test_errors(self):
        for thing in ODD + ((0, 2), (2, 0), (0, True), [0, 0]):
            if thing not in ((0, 1), (True, 0)):
                with self.assertRaises(BadPass):
                    wide_arrived(SINGLE, thing, None)
        with self.assertRaises(BadHouse):
            wide_arrived(None, None, None)
        for thing in self.not_wide():
            with self.assertRaises(BadWide):
                wide_arrived(DEEP, (0, 0), thing)
            self.assertIs(is_wide(DEEP, (0, (thing,), ())), False, thing)

    def not_wide(self):
        fines = ((2, 4), (1, 1), (1, 5), (1, 10), (1, -2), (0, 2), (1, True), (True, 2), (1, 2, 3), [1, 2], (1,), "1",
                 True, None, (1, 0), (6, 9), (1, 7 * 2 ** 100), (1, "2"), (1, None), ("1", 2), (None, 2), (1, (2,)),
                 ([1], 2), ((3, 2), 2), {3: 2})
        return [thing for thing in ODD if thing not in ((0, 1), (0, True))] + [(0, fine) for fine in fines] + [
            (2, 1), (-1, 1), (True, 1), (False, 1), (None, 1), [0, 1], (0,), (0, 1, 1), ((0, 1), 1)]


class WideWalks(unittest.TestCase):
    def test_what_is_wide(self):
        for wide in ((0, ((1, 7),), ()), (0, ((0, (1, 2 ** 190)), (1, (-5, 3 ** 100))), ((0, 1),)),
                     (0, ((0, HUGE), (1, (HUGE, 2)), (1, 0)), ((0, 1), (1, 0)))):
            self.assertIs(is_wide(DEEP, wide), True, wide)
        for thing in ODD + ((0, ((1, 7),), ((0, 0),)), (0, ((1, 7), (1, 7)), ((2, 0),)), [0, ((1, 7),), ()],
                            (0, [(1, 7)], ()), (0, ((1, 7),), []), (1, ((1, 7),), ()), (True, ((1, 7),), ()),
                            (0, (7,), ()), (0, ((1, 7), (1, 7)), ((0, True),)), (0, (), ())):
            self.assertIs(is_wide(DEEP, thing), False, thing)
            for asked in (wide_spots, wide_shortened):
                with self.assertRaises(BadWide):
                    asked(*(DEEP, thing, None)[:asked.__code__.co_argcount])
        with self.assertRaises(BadHouse):
            is_wide(None, (0, ((0, 0),), ()))

    def test_one_thing_changed(self):
        for chance, house in houses_by_chance(91, 150, most_rooms=3, numbers=NUMBERS):
            wide = some_wide(chance, house, 4)
            self.assertIs(is_wide(house, wide), True)
            room, wides, passes = wide
            at = chance.randrange(len(wides))
            rest, fine = wides[at]
            depth = deep_part(house)[rooms_of(house, wide)[at]]
            top, bottom = worth(fine).numerator, worth(fine).denominator
            for odd in ((rest + depth, fine), (rest - depth, fine), (rest, (2 * top, 2 * bottom)), (fine,),
                        (rest, (top * 997 + 1, bottom * 997)), [rest, fine]):
                self.assertIs(is_wide(house, (room, wides[:at] + (odd,) + wides[at + 1:], passes)), False, odd)
            if passes:
                turned = passes[:-1] + ((passes[-1][0], 2),)
                self.assertIs(is_wide(house, (room, wides, turned)), False)
                self.assertIs(is_wide(house, (room, wides[1:], passes)), False)

    def test_as_wide(self):
        for chance, house in houses_by_chance(92, 80, most_rooms=3, numbers=NUMBERS):
            walk = some_walk(chance, house, chance.randint(0, 6), pulls=(-50, 50))
            deep = deep_part(house)
            wides = tuple((pulls % deep[room], pulls) for pulls, room in zip(walk[1], rooms_of(house, walk)))
            self.assertEqual(as_wide(house, walk), (walk[0], wides, walk[2]))
            self.assertIs(is_wide(house, as_wide(house, walk)), True)
        self.assertEqual(as_wide(DEEP, (0, (-HUGE,), ())), (0, ((1, -HUGE),), ()))
        with self.assertRaises(BadWalk):
            as_wide(DEEP, (0, ((0, 0),), ()))

    def test_shortened(self):
        shortened = 0
        for chance, house in houses_by_chance(93, 300, most_rooms=3, numbers=NUMBERS):
            wide = some_wide(chance, house, 6)
            right = {spot: shorten_here(house, wide, spot) for spot in range(len(wide[2]))}
            spots = wide_spots(house, wide)
            self.assertEqual(spots, tuple(spot for spot in right if right[spot] is not None))
            for spot in list(right) + [-1, len(right)]:
                if spot in spots:
                    shorter = wide_shortened(house, wide, spot)
                    self.assertEqual(shorter, right[spot])
                    self.assertIs(is_wide(house, shorter), True)
                    shortened += 1
                else:
                    with self.assertRaises(BadSpot):
                        wide_shortened(house, wide, spot)
        self.assertGreater(shortened, 150)
        for spot in (True, False, None, "0", (0,), [0], 3, HUGE):
            with self.assertRaises(BadSpot):
                wide_shortened(SINGLE, as_wide(SINGLE, DEAD), spot)


class Dead(unittest.TestCase):
    def walks(self):
        """Houses with walks that come home, many of them dead, some of them not nothing."""
        for chance, house in houses_by_chance(94, 250, most_rooms=3, numbers=(1, 2, 3, 4, 6)):
            yield chance, house, some_round(chance, house, chance.randint(0, 5))
            yield chance, house, some_nothing(chance, house, chance.choice((2, 4, 6)))
        for chance, house in houses_by_chance(95, 150, most_rooms=2, numbers=(2, 3, 4, 6)):
            inner = some_walk(chance, house, 2, pulls=(-3, 3), turns=0.1)
            round_trip = put_together(inner, turned_back(house, inner))
            x, y = chance.randint(-2, 3), chance.randint(-2, 3)
            one = put_together(turned_back(house, inner), (inner[0], (x,), ()), inner)
            room = one[0]
            other = (room, (y,), ())
            walk = put_together(one, other, turned_back(house, one), turned_back(house, other))
            yield chance, house, walk
            yield chance, house, put_together(walk, (room, (chance.choice((0, 0, 1)),), ()))
            yield chance, house, round_trip

    def test_dead_walks_and_others(self):
        told = []
        for chance, house, walk in self.walks():
            spots = dead_spots(house, walk)
            told.append((spots is not None, is_nothing(house, walk)))
            self.assertIs(is_dead(house, walk), spots is not None)
            wide = as_wide(house, walk)
            if spots is None:
                wide = self.shortened_by_chance(chance, house, wide)
                self.assertNotEqual(wide[1], ((0, 0),))
                continue
            self.assertIsInstance(spots, list)
            for spot in spots:
                wide = shorten_here(house, wide, spot)
            self.assertEqual(wide, (walk[0], ((0, 0),), ()))
            self.assertIs(are_dead_spots(house, walk, spots), True)
            self.assertIs(are_dead_spots(house, walk, tuple(spots)), True)
            self.near_spots(house, walk, spots)
            hall = some_hall(chance, house)
            self.assertTrue(all(lead_seat(hall, walk, seat) == seat for seat in range(hall.seats)))
        self.assertGreater(min(told.count(kind) for kind in ((True, True), (True, False), (False, False))), 15)

    def shortened_by_chance(self, chance, house, wide):
        spots = wide_spots(house, wide)
        while spots:
            wide = shorten_here(house, wide, chance.choice(spots))
            spots = wide_spots(house, wide)
        return wide

    def near_spots(self, house, walk, spots):
        for near in (spots + [0], spots[:-1] if spots else [0], spots[:-1] + [len(walk[2])], spots[:-1] + [False],
                     spots[:-1] + [None], spots[:-1] + [-1]):
            self.assertIs(are_dead_spots(house, walk, near), False)

    def test_shortened_in_any_order(self):
        for chance, house, walk in list(self.walks())[::3]:
            dead = is_dead(house, walk)
            for _ in range(2):
                wide = self.shortened_by_chance(chance, house, as_wide(house, walk))
                self.assertEqual(wide[1] == ((0, 0),), dead)

    def test_walks_that_halls_show(self):
        shown = 0
        for chance, house, walk in self.walks():
            if house.rooms + len(house.doors) < 5 and parting_hall(house, walk, 3) is not None:
                self.assertIs(is_dead(house, walk), False)
                shown += 1
            hall = some_hall(chance, house)
            if any(lead_seat(hall, walk, seat) != seat for seat in range(hall.seats)):
                self.assertIs(is_dead(house, walk), False)
                shown += 1
        self.assertGreater(shown, 100)

    def test_just_one_of_dead_and_shown(self):
        told = []
        for chance, house, walk in self.walks():
            numbers = telling_numbers(house, walk)
            self.assertTrue(fit_here(house.doors, numbers))
            if max(numbers) < 3000:
                dead = is_dead(house, walk)
                self.assertIs(left_by_rests(house, numbers, walk) == ([], 0), dead)
                told.append(dead)
                if dead:
                    for numbers in chance.sample(fitting_here(house, 4), 1):
                        self.assertEqual(left_by_rests(house, numbers, walk), ([], 0))
        self.assertGreater(min(told.count(True), told.count(False)), 150)

    def test_facts(self):
        for chance, house, walk in self.walks():
            dead = is_dead(house, walk)
            if is_nothing(house, walk):
                self.assertTrue(dead)
            self.assertIs(is_dead(house, plain_form(house, walk)), dead)
            self.assertIs(is_dead(house, turned_back(house, walk)), dead)
            if dead:
                self.assertIs(is_dead(house, put_together(walk, walk)), True)
                around = turned_back(house, some_walk(chance, house, 3, room=walk[0]))
                self.assertIs(is_dead(house, put_together(around, walk, turned_back(house, around))), True)
        for pulls in (1, -1, 6, HUGE, -HUGE):
            self.assertIs(is_dead(SINGLE, (0, (pulls,), ())), False)
            self.assertIs(is_dead(ALONE, (0, (pulls,), ())), False)
        self.assertEqual(dead_spots(ALONE, (0, (0,), ())), [])

    def test_example(self):
        self.assertEqual(plain_form(SINGLE, DEAD), (0, (1, 1, 2, 1, -6), DEAD[2]))
        wide = as_wide(SINGLE, DEAD)
        self.assertEqual(wide, (0, ((0, 1), (0, 1), (0, -1), (0, -1), (0, 0)), DEAD[2]))
        shorter = wide_shortened(SINGLE, wide, 0)
        self.assertEqual(shorter, (0, ((0, (3, 2)), (0, -1), (0, 0)), ((0, 1), (0, 0))))
        self.assertEqual(wide_shortened(SINGLE, shorter, 0), (0, ((0, 0),), ()))
        self.assertIs(are_dead_spots(SINGLE, DEAD, [0, 0]), True)
        self.assertIs(is_dead(SINGLE, DEAD), True)
        self.assertIs(is_plain(SINGLE, DEAD) or is_nothing(SINGLE, DEAD), False)

    def test_rests(self):
        # The deep part of DEEP is 2, so one pull cannot be carried over its first door, but two can.
        for pulls, dead in ((1, False), (2, True), (3, False), (-4, True)):
            walk = (0, (0, pulls, 1, -pulls, -1), ((0, 0), (0, 1), (0, 0), (0, 1)))
            self.assertIs(is_dead(DEEP, walk), dead, pulls)
        self.assertEqual(deep_part(DEEP), (2,))

    def test_errors(self):
        for asked in (dead_spots, is_dead, are_dead_spots):
            more = (None,) if asked is are_dead_spots else ()
            for thing in ODD + ((0, (True,), ()), (0, (0,), ((0, 0),))):
                with self.assertRaises(BadWalk):
                    asked(PAIR, thing, *more)
            with self.assertRaises(NotHome):
                asked(PAIR, (0, (0, 0), ((0, 0),)), *more)
            with self.assertRaises(BadHouse):
                asked(None, None, *more)
        for thing in ODD + ([0, 0, 0], [0], [1, 0], [0, True], (0, None), {0: 0}, "00", [[0], [0]], [0, 1]):
            right = thing == [1, 0] or thing == [0, 0]
            self.assertIs(are_dead_spots(SINGLE, DEAD, thing), right and dead_by(DEAD, thing), thing)


def dead_by(walk, spots):
    wide = as_wide(SINGLE, walk)
    for spot in spots:
        wide = shorten_here(SINGLE, wide, spot)
        if wide is None:
            return False
    return wide[1] == ((0, 0),)


if __name__ == "__main__":
    unittest.main()
