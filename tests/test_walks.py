"""[11] Walks: joined, backwards, done again."""

import unittest

from pulledrooms.errors import BadRoom, BadTimes, BadWalk, Elsewhere, NotHome
from pulledrooms.walks import back, comes_home, end_of, is_walk, joined, power, standing
from tests.helper import (
    ALONE, HUGE, NO_NUMBERS, ODD, PAIR, RING, SINGLE, houses_by_chance, look_of, put_together, rooms_of, some_round,
    some_walk, turned_back,
)

W = (0, (1, 0, 4), ((0, 0), (0, 1)))


class IsWalk(unittest.TestCase):
    def test_walks(self):
        for walk in ((0, (0,), ()), (1, (-5,), ()), (0, (0, 0), ((0, 0),)), (1, (7, -2), ((0, 1),)), W,
                     (1, (0, 1, 2, 3), ((1, 0), (1, 1), (0, 1)))):
            self.assertIs(is_walk(PAIR, walk), True)

    def test_numbers_of_any_size(self):
        self.assertIs(is_walk(PAIR, (0, (10 ** 500, -10 ** 500), ((0, 0),))), True)

    def test_any_number_of_passes(self):
        for many in (60, 61, 1000):
            steps = ((0, 0), (0, 1)) * many
            self.assertIs(is_walk(PAIR, (0, (0,) * (len(steps) + 1), steps)), True)
            self.assertIs(is_walk(PAIR, (0, (0,) * len(steps), steps)), False)

    def test_near_misses(self):
        for thing in (
            (0, (1, 0), ((0, 0), (0, 1))), (0, (1, 0, 4, 0), ((0, 0), (0, 1))), (0, (), ()), (0, (0, 0), ()),
            (1, (1, 0, 4), ((0, 0), (0, 1))), (0, (1, 0, 4), ((0, 0), (0, 0))), (0, (0, 0), ((1, 0),)),
            (0, (1, 0, 4), ((0, 0), (2, 1))), (0, (1, 0, 4), ((0, 0), (0, 2))), (0, (1, 0, 4), ((0, 0), (-1, 1))),
            [0, (1, 0, 4), ((0, 0), (0, 1))], (0, [1, 0, 4], ((0, 0), (0, 1))), (0, (1, 0, 4), [(0, 0), (0, 1)]),
            (0, (1, 0, 4), ((0, 0), [0, 1])), (False, (1, 0, 4), ((0, 0), (0, 1))),
            (0, (True, 0, 4), ((0, 0), (0, 1))), (0, (1, False, 4), ((0, 0), (0, 1))),
            (0, (1, 0, 4), ((0, 0), (0, True))), (0, (1, 0, 4), ((False, 0), (0, 1))), (True, (1,), ()),
            (0, (1, None, 4), ((0, 0), (0, 1))), (0, (1, "0", 4), ((0, 0), (0, 1))), (0, (1, 0, 4), ((0, 0), None)),
            (2, (0,), ()), (-1, (0,), ()), (None, (0,), ()), (0, (0,)), (0, (0,), (), ()), ((0, (0,), ()),),
            (0, 0, ()), (0, (0,), 0), (0, (0,), {}), (0, {}, ()), (0, "0", ()), (0, (0,), ""), (0, (0, 0), "0"),
        ):
            with self.subTest(thing=thing):
                self.assertIs(is_walk(PAIR, thing), False)

    def test_other_values(self):
        for thing in ODD:
            with self.subTest(thing=thing):
                self.assertIs(is_walk(PAIR, thing), False)

    def test_the_house_counts(self):
        self.assertIs(is_walk(SINGLE, (1, (0,), ())), False)
        self.assertIs(is_walk(ALONE, (0, (0, 0), ((0, 0),))), False)

    def test_many_walks(self):
        for chance, house in houses_by_chance(11, 150):
            walk = some_walk(chance, house, chance.randint(0, 8))
            self.assertIs(is_walk(house, walk), True)
            self.assertEqual(end_of(house, walk), rooms_of(house, walk)[-1])
            self.assertIs(comes_home(house, walk), walk[0] == rooms_of(house, walk)[-1])


class Ends(unittest.TestCase):
    def test_end_and_home(self):
        self.assertEqual(end_of(PAIR, W), 0)
        self.assertIs(comes_home(PAIR, W), True)
        self.assertEqual(end_of(PAIR, (0, (0, 0), ((0, 0),))), 1)
        self.assertIs(comes_home(PAIR, (0, (0, 0), ((0, 0),))), False)
        self.assertEqual(end_of(PAIR, (1, (3,), ())), 1)
        self.assertIs(comes_home(PAIR, (1, (3,), ())), True)
        self.assertIs(comes_home(PAIR, (1, (3, 0), ((1, 1),))), True)

    def test_wrong_walks(self):
        for walk in ODD + ((0, (1, 0), ((0, 0), (0, 1))), (2, (0,), ())):
            for asked in (end_of, comes_home, back):
                with self.subTest(asked=asked, walk=walk), self.assertRaises(BadWalk):
                    asked(PAIR, walk)


class Joined(unittest.TestCase):
    def test_values(self):
        self.assertEqual(joined(PAIR, W, W), (0, (1, 0, 5, 0, 4), ((0, 0), (0, 1), (0, 0), (0, 1))))
        self.assertEqual(joined(PAIR, (0, (3, 4), ((0, 0),)), (1, (-9,), ())), (0, (3, -5), ((0, 0),)))
        self.assertEqual(joined(PAIR, (0, (3,), ()), (0, (-3,), ())), (0, (0,), ()))
        self.assertEqual(joined(SINGLE, (0, (HUGE,), ()), (0, (HUGE,), ())), (0, (2 * HUGE,), ()))

    def test_elsewhere(self):
        with self.assertRaises(Elsewhere):
            joined(PAIR, (0, (0, 0), ((0, 0),)), W)
        with self.assertRaises(Elsewhere):
            joined(PAIR, W, (1, (0,), ()))

    def test_order_of_the_errors(self):
        for wrong in ODD:
            with self.assertRaises(BadWalk):
                joined(PAIR, wrong, W)
            with self.assertRaises(BadWalk):
                joined(PAIR, (1, (0,), ()), wrong)

    def test_facts(self):
        for chance, house in houses_by_chance(12, 80):
            one = some_walk(chance, house, chance.randint(0, 5))
            other = some_walk(chance, house, chance.randint(0, 5), room=end_of(house, one))
            third = some_walk(chance, house, chance.randint(0, 5), room=end_of(house, other))
            both = joined(house, one, other)
            self.assertEqual(both, put_together(one, other))
            self.assertEqual(joined(house, both, third), joined(house, one, joined(house, other, third)))
            self.assertEqual(joined(house, standing(house, one[0]), one), one)
            self.assertEqual(joined(house, one, standing(house, end_of(house, one))), one)
            self.assertEqual(back(house, both), joined(house, back(house, other), back(house, one)))
            there_and_back = joined(house, one, back(house, one))
            self.assertEqual(look_of(house, there_and_back), look_of(house, standing(house, one[0])))


class Back(unittest.TestCase):
    def test_values(self):
        self.assertEqual(back(PAIR, W), (0, (-4, 0, -1), ((0, 0), (0, 1))))
        self.assertEqual(back(PAIR, (0, (2, 5), ((0, 0),))), (1, (-5, -2), ((0, 1),)))
        self.assertEqual(back(PAIR, (1, (0,), ())), (1, (0,), ()))
        self.assertEqual(back(PAIR, (1, (1, 2, 3), ((1, 0), (0, 1)))), (0, (-3, -2, -1), ((0, 0), (1, 1))))

    def test_nought_stays_nought(self):
        walk = back(PAIR, (0, (0, 0), ((0, 0),)))
        self.assertEqual([str(pulls) for pulls in walk[1]], ["0", "0"])

    def test_twice_is_itself(self):
        for chance, house in houses_by_chance(13, 80):
            walk = some_walk(chance, house, chance.randint(0, 9))
            self.assertEqual(back(house, walk), turned_back(house, walk))
            self.assertEqual(back(house, back(house, walk)), walk)


class Standing(unittest.TestCase):
    def test_values(self):
        for room in range(4):
            self.assertEqual(standing(RING, room), (room, (0,), ()))

    def test_wrong_rooms(self):
        for room in NO_NUMBERS + (-1, 4, HUGE):
            with self.subTest(room=room), self.assertRaises(BadRoom):
                standing(RING, room)


class Power(unittest.TestCase):
    def test_example(self):
        self.assertEqual(power(PAIR, W, 2), (0, (1, 0, 5, 0, 4), ((0, 0), (0, 1), (0, 0), (0, 1))))
        self.assertEqual(power(PAIR, W, 1), W)
        self.assertEqual(power(PAIR, W, 0), (0, (0,), ()))
        self.assertEqual(power(PAIR, W, -1), back(PAIR, W))
        self.assertEqual(power(PAIR, (1, (5,), ()), -9), (1, (-45,), ()))
        self.assertEqual(power(PAIR, (1, (5,), ()), 0), (1, (0,), ()))

    def test_each_times(self):
        for chance, house in houses_by_chance(14, 25):
            walk = some_round(chance, house, chance.randint(0, 4))
            for times in range(1, 10):
                self.assertEqual(power(house, walk, times), put_together(*[walk] * times))
                self.assertEqual(power(house, walk, -times), put_together(*[turned_back(house, walk)] * times))
            self.assertEqual(power(house, walk, 0), (walk[0], (0,), ()))

    def test_facts(self):
        for chance, house in houses_by_chance(15, 10):
            walk = some_round(chance, house, chance.randint(1, 4))
            for m in range(-4, 5):
                for n in range(-4, 5):
                    both = joined(house, power(house, walk, m), power(house, walk, n))
                    self.assertEqual(look_of(house, both), look_of(house, power(house, walk, m + n)))
                    if m * n >= 0:
                        self.assertEqual(both, power(house, walk, m + n))

    def test_wrong_times(self):
        for times in NO_NUMBERS + (10, -10, HUGE, -HUGE):
            with self.subTest(times=times), self.assertRaises(BadTimes):
                power(PAIR, W, times)

    def test_order_of_the_errors(self):
        with self.assertRaises(NotHome):
            power(PAIR, (0, (0, 0), ((0, 0),)), None)
        with self.assertRaises(NotHome):
            power(PAIR, (0, (0, 0), ((0, 0),)), 0)
        for walk in ODD:
            with self.assertRaises(BadWalk):
                power(PAIR, walk, 10)

    def test_a_walk_of_sixty_passes(self):
        walk = (0, tuple(range(61)), ((0, 0), (0, 1)) * 30)
        self.assertEqual(len(power(PAIR, walk, 9)[2]), 540)
        self.assertTrue(is_walk(PAIR, power(PAIR, walk, -9)))


if __name__ == "__main__":
    unittest.main()
