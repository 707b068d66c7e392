"""[2] (a), [20], [21] Carrying, shortening, plain forms, walks that are one; the facts of [11] on them."""

import random
import unittest

from pulledrooms.errors import BadSpot, BadTimes, BadWalk
from pulledrooms.forms import are_one, carried, is_nothing, is_plain, plain_form, shortened, shortening_spots
from pulledrooms.houses import House
from pulledrooms.walks import back, is_walk, joined, power, standing
from tests.helper import (
    ALONE, GREAT, HUGE, NO_NUMBERS, ODD, PAIR, RING, SINGLE, TWINS, carry, ends, houses_by_chance, look_of,
    put_together, rooms_of, shorten, some_nothing, some_number, some_plain_form, some_round, some_walk, spots,
    turned_back,
)

THERE, HERE = (0, 0), (0, 1)
TURN = (0, (1, 6, 5), (THERE, HERE))
# Numbers of pulls that numbers of the doors of GREAT divide, and some that they do not.
PULLS = (0, 1, -1, 998, -999, 999 * 998, 512 * 729, -512, 997 * 7, 5, HUGE, -HUGE, 10 ** 59)


def some_great_walk(chance, passes):
    room, pulls, steps = some_walk(chance, GREAT, passes, turns=0.8)
    return room, tuple(chance.choice(PULLS) for _ in pulls), steps


def is_plain_here(house, walk):
    ranges = [0 <= pulls < abs(ends(house, step)[1]) for pulls, step in zip(walk[1], walk[2])]
    return all(ranges) and spots(house, walk) == ()


def changed_by_chance(chance, house, walk):
    """A walk that is one with walk: passes and backs put in, and pulls carried."""
    for _ in range(chance.randint(1, 6)):
        room, pulls, steps = walk
        spot = chance.randrange(len(pulls))
        ways = [(door, side) for door in range(len(house.doors)) for side in (0, 1)
                if ends(house, (door, side))[0] == rooms_of(house, walk)[spot]]
        if ways:
            step, ahead = chance.choice(ways), chance.randint(-9, 9)
            pulls = pulls[:spot] + (ahead, 0, pulls[spot] - ahead) + pulls[spot + 1:]
            walk = room, pulls, steps[:spot] + (step, (step[0], 1 - step[1])) + steps[spot:]
            walk = carry(house, walk, chance.randrange(len(walk[2])), chance.randint(-3, 3))
    return walk


class Carrying(unittest.TestCase):
    def test_values(self):
        self.assertEqual(carried(SINGLE, TURN, 0, -2), (0, (5, 0, 5), (THERE, HERE)))
        self.assertEqual(carried(SINGLE, TURN, 1, 2), (0, (1, 0, 9), (THERE, HERE)))
        self.assertEqual(carried(SINGLE, TURN, 1, 0), TURN)
        self.assertEqual(carried(TWINS, (0, (1, 2), ((1, 0),)), 0, 3), (0, (-11, -16), ((1, 0),)))
        self.assertEqual(carried(TWINS, (1, (1, 2), ((1, 1),)), 0, 3), (1, (19, 14), ((1, 1),)))
        self.assertEqual(carried(SINGLE, TURN, 0, HUGE), (0, (1 - 2 * HUGE, 6 + 3 * HUGE, 5), (THERE, HERE)))

    def test_wrong_spots(self):
        for spot in NO_NUMBERS + (2, -1, HUGE):
            with self.subTest(spot=spot), self.assertRaises(BadSpot):
                carried(SINGLE, TURN, spot, None)
        with self.assertRaises(BadSpot):
            carried(SINGLE, (0, (5,), ()), 0, 1)

    def test_wrong_times(self):
        for times in NO_NUMBERS:
            with self.subTest(times=times), self.assertRaises(BadTimes):
                carried(SINGLE, TURN, 0, times)

    def test_many(self):
        for chance, house in houses_by_chance(30, 100):
            walk = some_walk(chance, house, chance.randint(1, 8))
            for spot in range(len(walk[2])):
                times = chance.choice((0, 1, -1, 7, -HUGE))
                self.assertEqual(carried(house, walk, spot, times), carry(house, walk, spot, times))
                self.assertTrue(are_one(house, carried(house, walk, spot, times), walk))


class Shortening(unittest.TestCase):
    def test_example(self):
        self.assertEqual(shortening_spots(SINGLE, TURN), (0,))
        self.assertEqual(shortened(SINGLE, TURN, 0), (0, (10,), ()))

    def test_values(self):
        for between, wanted in ((0, (0,)), (3, (0,)), (-3, (0,)), (1, ()), (2, ()), (-4, ()), (3 * HUGE, (0,))):
            self.assertEqual(shortening_spots(SINGLE, (0, (1, between, 5), (THERE, HERE))), wanted)
        self.assertEqual(shortening_spots(SINGLE, (0, (1, 2, 5), (HERE, THERE))), (0,))
        self.assertEqual(shortening_spots(SINGLE, (0, (1, 0, 0, 0, 5), (THERE, HERE, THERE, HERE))), (0, 1, 2))
        self.assertEqual(shortening_spots(SINGLE, (0, (0, 0, 0), (THERE, THERE))), ())
        self.assertEqual(shortening_spots(TWINS, (0, (0, 0, 0), ((0, 0), (1, 1)))), ())
        self.assertEqual(shortening_spots(SINGLE, (0, (5,), ())), ())
        self.assertEqual(shortened(SINGLE, (0, (1, -6, 5), (THERE, HERE)), 0), (0, (2,), ()))
        self.assertEqual(shortened(TWINS, (0, (1, 12, 5), ((1, 0), (1, 1))), 0), (0, (-2,), ()))
        walk = (0, (1, 3, 2, 3, 5), (THERE, HERE, THERE, HERE))
        self.assertEqual(shortened(SINGLE, walk, 0), (0, (5, 3, 5), (THERE, HERE)))
        self.assertEqual(shortened(SINGLE, walk, 1), (0, (1, 9, 5), (THERE, HERE)))
        self.assertEqual(shortened(SINGLE, walk, 2), (0, (1, 3, 9), (THERE, HERE)))

    def test_wrong_spots(self):
        walk = (0, (1, 3, 1, 3, 5), (THERE, HERE, THERE, HERE))
        for spot in NO_NUMBERS + (1, 3, 4, -1, -2, -4, HUGE):
            with self.subTest(spot=spot), self.assertRaises(BadSpot):
                shortened(SINGLE, walk, spot)
        with self.assertRaises(BadSpot):
            shortened(ALONE, (0, (0,), ()), 0)

    def test_many(self):
        found = 0
        for chance, house in houses_by_chance(31, 200):
            walk = some_walk(chance, house, chance.randint(0, 9), turns=0.8)
            self.assertEqual(shortening_spots(house, walk), spots(house, walk))
            for spot in range(len(walk[2])):
                if spot in spots(house, walk):
                    found += 1
                    self.assertEqual(shortened(house, walk, spot), shorten(house, walk, spot))
                    self.assertTrue(are_one(house, shortened(house, walk, spot), walk))
                else:
                    with self.assertRaises(BadSpot):
                        shortened(house, walk, spot)
        self.assertGreater(found, 100)


class Plain(unittest.TestCase):
    def test_example(self):
        self.assertEqual(plain_form(SINGLE, (0, (5, 0), (THERE,))), (0, (1, 6), (THERE,)))
        self.assertEqual(plain_form(SINGLE, TURN), (0, (10,), ()))

    def test_values(self):
        self.assertEqual(plain_form(SINGLE, (0, (-1, 0), (THERE,))), (0, (1, -3), (THERE,)))
        self.assertEqual(plain_form(TWINS, (1, (-1, 0), ((1, 1),))), (1, (5, 4), ((1, 1),)))
        self.assertEqual(plain_form(TWINS, (1, (6, 0), ((1, 1),))), (1, (0, -4), ((1, 1),)))
        self.assertEqual(plain_form(SINGLE, (0, (-7,), ())), (0, (-7,), ()))
        self.assertEqual(plain_form(SINGLE, (0, (0, 2, 0), (THERE, THERE))), (0, (0, 0, 3), (THERE, THERE)))
        walk = (0, (1, 1, -1, -1, 0), (HERE, THERE, HERE, THERE))
        self.assertEqual(plain_form(SINGLE, walk), (0, (1, 1, 2, 1, -6), (HERE, THERE, HERE, THERE)))

    def test_is_plain(self):
        for walk in ((0, (1, 6), (THERE,)), (0, (-9,), ()), (0, (0, 1, -9), (THERE, HERE)), (0, (2, -1), (HERE,)),
                     (0, (0, 0, 0), (THERE, THERE)), (0, (1, 1, 7), (HERE, THERE))):
            self.assertIs(is_plain(SINGLE, walk), True)
        for walk in ((0, (2, 6), (THERE,)), (0, (-1, 6), (THERE,)), (0, (3, -1), (HERE,)),
                     (0, (0, 0, 0), (THERE, HERE)), (0, (0, 0, 2, 0), (THERE, THERE, THERE)),
                     (0, (0, 3, 0), (THERE, HERE)),
                     (0, (True, 0), (THERE,)), [0, (1, 6), (THERE,)], (0, (1, 6), [THERE]), (0, [1, 6], (THERE,))):
            self.assertIs(is_plain(SINGLE, walk), False)
        self.assertIs(is_plain(TWINS, (1, (5, 0), ((1, 1),))), True)
        self.assertIs(is_plain(TWINS, (1, (6, 0), ((1, 1),))), False)
        self.assertIs(is_plain(TWINS, (1, (-5, 0), ((1, 1),))), False)
        for thing in ODD:
            self.assertIs(is_plain(SINGLE, thing), False)

    def test_any_order_comes_to_the_plain_form(self):
        for chance, house in houses_by_chance(32, 150):
            walk = some_walk(chance, house, chance.randint(0, 10), turns=0.7)
            plain = plain_form(house, walk)
            self.assertTrue(is_plain_here(house, plain))
            self.assertTrue(is_plain(house, plain))
            self.assertIs(is_plain(house, walk), is_plain_here(house, walk))
            self.assertEqual(plain_form(house, plain), plain)
            self.assertEqual(look_of(house, plain), look_of(house, walk))
            for _ in range(3):
                self.assertEqual(some_plain_form(house, walk, chance), plain)

    def test_great_numbers(self):
        chance = random.Random(33)
        shorter = 0
        for _ in range(150):
            walk = some_great_walk(chance, chance.randint(0, 9))
            plain = plain_form(GREAT, walk)
            self.assertTrue(is_plain_here(GREAT, plain) and is_plain(GREAT, plain))
            self.assertEqual(some_plain_form(GREAT, walk, chance), plain)
            shorter += len(plain[2]) < len(walk[2])
        self.assertGreater(shorter, 30)

    def test_sixty_passes(self):
        chance = random.Random(34)
        for house in (SINGLE, PAIR, RING, GREAT):
            for turns in (0.2, 0.9):
                walk = some_walk(chance, house, 60, pulls=(-HUGE, HUGE), turns=turns)
                self.assertTrue(is_plain_here(house, plain_form(house, walk)))
                self.assertEqual(some_plain_form(house, walk, chance), plain_form(house, walk))
        loop = House(1, ((0, -1, 0, 1),))
        walk = (0, tuple(range(61)), ((0, 0), (0, 1)) * 30)
        self.assertEqual(plain_form(loop, walk), (0, (sum(range(0, 61, 2)) - sum(range(1, 61, 2)),), ()))

    def test_the_fewest_passes(self):
        for chance, house in houses_by_chance(35, 80):
            plain = plain_form(house, some_walk(chance, house, chance.randint(0, 6)))
            longer = changed_by_chance(chance, house, plain)
            self.assertEqual(plain_form(house, longer), plain)
            self.assertLessEqual(len(plain[2]), len(longer[2]))


class One(unittest.TestCase):
    def test_walks_that_moves_lead_to_one_another(self):
        for chance, house in houses_by_chance(36, 150):
            walk = some_walk(chance, house, chance.randint(0, 8))
            other = changed_by_chance(chance, house, walk)
            self.assertIs(are_one(house, walk, other), True)
            self.assertIs(are_one(house, other, walk), True)

    def test_one_number_of_pulls_changed(self):
        for chance, house in houses_by_chance(37, 150):
            walk = some_walk(chance, house, chance.randint(0, 8))
            room, pulls, steps = changed_by_chance(chance, house, walk)
            spot = chance.randrange(len(pulls))
            more = some_number(chance, (1, 2, 6, 12, HUGE))
            other = room, pulls[:spot] + (pulls[spot] + more,) + pulls[spot + 1:], steps
            self.assertIs(are_one(house, walk, other), False)

    def test_one_look_but_not_one(self):
        walk = (0, (1, 1, -1, -1, 0), (HERE, THERE, HERE, THERE))
        self.assertEqual(look_of(SINGLE, walk), look_of(SINGLE, (0, (0,), ())))
        self.assertIs(are_one(SINGLE, walk, (0, (0,), ())), False)
        self.assertIs(is_nothing(SINGLE, walk), False)

    def test_unlike_rooms(self):
        self.assertIs(are_one(PAIR, (0, (0,), ()), (1, (0,), ())), False)
        self.assertIs(are_one(PAIR, (0, (0, 0), (THERE,)), (0, (0,), ())), False)
        self.assertIs(are_one(PAIR, (0, (0, 0), (THERE,)), (1, (0, 0), (HERE,))), False)
        self.assertIs(are_one(PAIR, (0, (2, 0), (THERE,)), (0, (0, 3), (THERE,))), True)
        self.assertIs(are_one(TWINS, (0, (0, 0), ((0, 0),)), (0, (0, 0), ((1, 0),))), False)

    def test_wrong_walks(self):
        for walk in ODD:
            with self.assertRaises(BadWalk):
                are_one(SINGLE, walk, TURN)
            with self.assertRaises(BadWalk):
                are_one(SINGLE, TURN, walk)

    def test_facts_of_joined_walks(self):
        for chance, house in houses_by_chance(38, 60):
            walk = some_walk(chance, house, chance.randint(0, 8))
            self.assertTrue(are_one(house, joined(house, walk, back(house, walk)), standing(house, walk[0])))
            self.assertTrue(is_nothing(house, put_together(turned_back(house, walk), walk)))
            round_walk = some_round(chance, house, chance.randint(0, 4))
            for m, n in ((3, -3), (-2, 5), (4, -1), (2, 3), (-9, 9), (0, -2)):
                both = joined(house, power(house, round_walk, m), power(house, round_walk, n))
                self.assertTrue(are_one(house, both, power(house, round_walk, m + n)))


class Nothing(unittest.TestCase):
    def test_values(self):
        for walk in ((0, (0,), ()), (0, (-4, 6, 0), (THERE, HERE)), (0, (1, 0, -1), (HERE, THERE)),
                     (0, (3, -2, 0), (HERE, THERE))):
            self.assertIs(is_nothing(SINGLE, walk), True)
        for walk in ((0, (1,), ()), (0, (-4, 6, 1), (THERE, HERE)), (0, (0, 1, 0), (THERE, HERE)),
                     (0, (0, 0), (THERE,)), (0, (0, 0, 0), (THERE, THERE)), (0, (0, 0, 0, 0), (THERE, HERE, THERE))):
            self.assertIs(is_nothing(SINGLE, walk), False)
        self.assertIs(is_nothing(PAIR, (0, (0, 0), (THERE,))), False)
        self.assertIs(is_nothing(PAIR, (1, (0,), ())), True)

    def test_many(self):
        for chance, house in houses_by_chance(39, 150):
            walk = some_nothing(chance, house, chance.randint(0, 12))
            self.assertIs(is_nothing(house, walk), True)
            room, pulls, steps = walk
            spot = chance.randrange(len(pulls))
            self.assertIs(is_nothing(house, (room, pulls[:spot] + (pulls[spot] + 1,) + pulls[spot + 1:], steps)), False)

    def test_shortenings_are_half_of_the_passes(self):
        for chance, house in houses_by_chance(40, 60):
            walk = some_walk(chance, house, chance.randint(0, 10), turns=0.8)
            left, many = walk, 0
            while shortening_spots(house, left):
                left = shortened(house, left, chance.choice(shortening_spots(house, left)))
                many += 1
            self.assertTrue(is_walk(house, left))
            self.assertEqual(2 * many, len(walk[2]) - len(plain_form(house, walk)[2]))


if __name__ == "__main__":
    unittest.main()
