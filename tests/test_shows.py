"""[2] (g), [75], [76] Halls that show walks, and walks that no hall shows."""

import random
import unittest
from math import lcm

from pulledrooms.classes import same_rows
from pulledrooms.errors import BadFitting, BadHouse, BadWalk, NotHome, TooMany
from pulledrooms.everyk import dead_for
from pulledrooms.forms import is_nothing
from pulledrooms.halls import Hall
from pulledrooms.houses import House
from pulledrooms.patterns import nothing_for
from pulledrooms.ratios import lengths_of, stretching_walk
from pulledrooms.shows import dead_walk, hall_for, hall_with, is_rising
from pulledrooms.walks import comes_home
from pulledrooms.wide import dead_spots, is_dead
from tests.helper import (ALONE, GREAT, HUGE, ODD, PAIR, RING, SINGLE, TWINS, bare, done, fit_here, fitting_here,
                          houses_by_chance, lead_seat, led_along, measured_house, pulls_in, put_together, rooms_of,
                          rounds_here, some_hall, some_nothing, some_pattern, some_round, some_walk, turned_back)
from tests.test_wide import DEAD, left_by_rests, telling_numbers

LEVEL = House(1, ((0, 1, 0, 1),))
DEEP = House(1, ((0, 4, 0, 6),))
RESTS = (DEEP, House(1, ((0, 9, 0, 6),)), House(2, ((0, 4, 1, 6), (0, 10, 1, 15), (1, 9, 1, 27))),
         House(1, ((0, 20, 0, 30), (0, 1, 0, 1))))


def seats_told(house, fitting, walk):
    """L * u ([75]), by trying u."""
    kept, _ = left_by_rests(house, fitting, walk)
    rooms = rooms_of(house, (walk[0], None, kept))
    common, times = lcm(*fitting), 1
    while any(common * times // number < rooms.count(room) for room, number in enumerate(fitting)):
        times += 1
    return common * times


def some_shown(chance, house):
    """A walk that comes home, left to chance, often one that is hard to tell from nothing."""
    kind = chance.random()
    if kind < 0.3:
        return some_nothing(chance, house, chance.choice((2, 4, 6)))
    if kind < 0.6:
        return some_round(chance, house, chance.randint(0, 5))
    inner = some_walk(chance, house, chance.randint(1, 3), pulls=(-3, 3), turns=0.2)
    far = rooms_of(house, inner)[-1]
    one = led_along(house, inner, pulls_in(far, chance.randint(-3, 6)))
    other = pulls_in(inner[0], chance.randint(-3, 6))
    return put_together(one, other, turned_back(house, one), turned_back(house, other))


class Judging(unittest.TestCase):
    def judged(self, house, fitting, walk):
        """Judges hall_with; tells whether there is a Hall."""
        wanted = left_by_rests(house, fitting, walk) != ([], 0)
        seats = seats_told(house, fitting, walk)
        if wanted and seats > 5000:
            with self.assertRaises(TooMany) as caught:
                hall_with(house, fitting, walk)
            self.assertEqual(caught.exception.most, 5000)
            return None
        hall = hall_with(house, fitting, walk)
        if not wanted:
            self.assertIsNone(hall)
            return False
        self.judge_hall(house, fitting, walk, hall)
        self.assertEqual(hall.seats, seats)
        return True

    def judge_hall(self, house, fitting, walk, hall):
        self.assertIsInstance(hall, Hall)
        self.assertEqual(hall.house, house)
        self.assertEqual(hall.seats % lcm(*fitting), 0)
        for rope, number in zip(hall.ropes, fitting):
            self.assertEqual({len(seats) for seats in rounds_here(rope)}, {number})
        small = walk[0], tuple(pulls % fitting[room] for pulls, room in zip(walk[1], rooms_of(house, walk))), walk[2]
        self.assertTrue(any(lead_seat(hall, small, seat) != seat for seat in range(hall.seats)))


class HallWith(Judging):
    def test_by_chance(self):
        told = []
        for chance, house in houses_by_chance(110, 500, most_rooms=3, numbers=(1, 2, 3, 4, 6)):
            told.append(self.judged(house, chance.choice(fitting_here(house, 6)), some_shown(chance, house)))
        for house in RESTS:
            chance = random.Random(111)
            for _ in range(30):
                told.append(self.judged(house, chance.choice(fitting_here(house, 20)), some_shown(chance, house)))
        self.assertGreater(min(told.count(True), told.count(False)), 120)

    def test_none_means_that_no_such_hall_shows_it(self):
        looked = 0
        for chance, house in houses_by_chance(112, 300, most_rooms=3, numbers=(1, 2, 3, 4)):
            hall = some_hall(chance, house, most=4, parts=1)
            fitting = tuple(len(rounds_here(rope)[0]) for rope in hall.ropes)
            walk = some_shown(chance, house)
            if all(len(seats) == number for rope, number in zip(hall.ropes, fitting) for seats in rounds_here(rope)):
                if hall_with(house, fitting, walk) is None:
                    self.assertTrue(all(lead_seat(hall, walk, seat) == seat for seat in range(hall.seats)))
                    looked += 1
        self.assertGreater(looked, 60)

    def test_by_hand(self):
        for pulls, shown in ((1, True), (4, True), (5, False), (-5, False), (HUGE, True), (5 * HUGE, False)):
            self.assertIs(self.judged(SINGLE, (5,), pulls_in(0, pulls)), shown)
        walk = (0, (0, 1, 0), ((0, 0), (0, 1)))
        # One pull can be carried over any pass of rounds of five, over none of rounds of two times two.
        self.assertIs(self.judged(SINGLE, (5,), walk), True)
        self.assertEqual(hall_with(SINGLE, (5,), walk).seats, 5)
        quarter = House(1, ((0, 2, 0, 2),))
        self.assertEqual(hall_with(quarter, (4,), walk).seats, 12)
        self.assertEqual(hall_with(quarter, (4,), (0, (0, 2, 0), walk[2])).seats, 4)
        # Three stays in rooms 0, 1 and 0: two of them in room 0, whose rounds are of six.
        line = House(2, ((0, 3, 1, 2),))
        self.assertEqual(hall_with(line, (6, 4), (0, (0, 1, 0), walk[2])).seats, 12)
        self.assertEqual(hall_with(line, (6, 4), (1, (0, 1, 0), ((0, 1), (0, 0)))).seats, 12)
        self.assertEqual(hall_with(line, (12, 8), (0, (0, 1, 0), walk[2])).seats, 24)
        self.assertEqual(hall_with(line, (3, 2), (0, (0, 1, 0), walk[2])).seats, 6)

    def test_five_thousand_seats_and_more(self):
        four = bare(0, [(0, 0)] * 4)
        for house, fitting, walk, seats in (
                (ALONE, (5000,), pulls_in(0, 1), 5000), (ALONE, (5001,), pulls_in(0, 1), None),
                (LEVEL, (1000,), four, 5000), (LEVEL, (1001,), four, None), (LEVEL, (1,), done(four, 15), 61),
                (House(2, ((0, 8, 1, 625),)), (8, 625), pulls_in(1, 1), 5000),
                (House(2, ((0, 8, 1, 625),)), (56, 4375), pulls_in(1, 1), None)):
            if seats is None:
                with self.assertRaises(TooMany) as caught:
                    hall_with(house, fitting, walk)
                self.assertEqual(caught.exception.most, 5000)
            else:
                hall = hall_with(house, fitting, walk)
                self.assertEqual(hall.seats, seats)
                self.judge_hall(house, fitting, walk, hall)
        for walk in (pulls_in(0, 5001), pulls_in(0, 0), (0, (0, 5001, 0), ((0, 0), (0, 1)))):
            self.assertIsNone(hall_with(LEVEL, (5001,), walk))

    def test_errors(self):
        for thing in ODD + ((0,), (2,), (3,), (-5,), [5], (True,), (5, 5), (5, "5")):
            with self.assertRaises(BadFitting):
                hall_with(SINGLE, thing, None)
        for thing in ODD + ((0, (True,), ()), (1, (0,), ())):
            with self.assertRaises(BadWalk):
                hall_with(SINGLE, (5003,), thing)
        with self.assertRaises(NotHome):
            hall_with(PAIR, (1, 1), bare(0, [(0, 0)]))
        with self.assertRaises(BadHouse):
            hall_with(None, None, None)


class HallFor(Judging):
    def telling(self, house, walk):
        """Judges hall_for; tells whether there is a Hall."""
        dead = is_dead(house, walk)
        self.assertIs(dead_spots(house, walk) is None, not dead)
        if dead:
            self.assertIsNone(hall_for(house, walk))
            return False
        fitting = telling_numbers(house, walk)
        self.assertTrue(fit_here(house.doors, fitting))
        if max(fitting) < 5000 and seats_told(house, fitting, walk) <= 5000:
            hall = hall_for(house, walk)
            self.judge_hall(house, fitting, walk, hall)
            return True
        with self.assertRaises(TooMany) as caught:
            hall_for(house, walk)
        self.assertEqual(caught.exception.most, 5000)
        return None

    def test_just_one_of_a_hall_and_dead_spots(self):
        told = []
        for chance, house in houses_by_chance(113, 400, most_rooms=3, numbers=(1, 2, 3, 4, 6)):
            told.append(self.telling(house, some_shown(chance, house)))
        for house in RESTS:
            chance = random.Random(114)
            told += [self.telling(house, some_shown(chance, house)) for _ in range(20)]
        self.assertGreater(min(told.count(True), told.count(False)), 120)

    def test_pulls_alone(self):
        for pulls, seats in ((1, 2), (2, 3), (-6, 4), (12, 5), (60, 7), (27720, 13), (0, None)):
            hall = hall_for(ALONE, pulls_in(0, pulls))
            self.assertEqual(None if hall is None else hall.seats, seats)
        # 2 and 3 are bounded, so that rounds of 5, 7 and 11 are left to tell pulls apart.
        for pulls, seats in ((1, 5), (6, 5), (5, 7), (-35, 11), (36 * 385, 13)):
            hall = hall_for(SINGLE, pulls_in(0, pulls))
            self.assertEqual(hall.seats, seats)
            self.telling(SINGLE, pulls_in(0, pulls))
        # One pull carried over the pass is worth 3/2, five are worth 15/2.
        for pulls, seats in ((1, 5), (5, 7)):
            self.assertEqual(hall_for(SINGLE, (0, (0, pulls, 0), ((0, 1), (0, 0)))).seats, seats)
        # The deep part is 2: one pull is told by its rest.
        for pulls, seats in ((1, 2), (3, 2), (2, 10), (10, 14)):
            self.assertEqual(hall_for(DEEP, pulls_in(0, pulls)).seats, seats)

    def test_houses_in_which_lengths_fit(self):
        chance = random.Random(115)
        told = []
        for _ in range(200):
            house = measured_house(chance, most_rooms=3, most_more=1)
            walk = some_shown(chance, house)
            told.append(self.telling(house, walk))
            self.assertIs(is_dead(house, walk), is_nothing(house, walk))
        self.assertGreater(told.count(True), 40)

    def test_too_many(self):
        house = House(2, ((0, 1, 1, 709),))
        for pulls, times in ((1, 1), (709, 2), (709 * 2, 3), (709 * 6, 4), (709 * 12, 5), (709 * 60, 7)):
            self.assertEqual(hall_for(house, pulls_in(1, pulls)).seats, 709 * times)
            self.telling(house, pulls_in(1, pulls))
        with self.assertRaises(TooMany) as caught:
            hall_for(house, pulls_in(1, 709 * 420))
        self.assertEqual(caught.exception.most, 5000)
        for thing in (pulls_in(1, 0), (0, (0, 709, -1), ((0, 0), (0, 1)))):
            self.assertIsNone(hall_for(house, thing))

    def test_errors(self):
        for thing in ODD + ((0, (True,), ()), (1, (0,), ())):
            with self.assertRaises(BadWalk):
                hall_for(SINGLE, thing)
        with self.assertRaises(NotHome):
            hall_for(PAIR, bare(0, [(0, 0)]))
        with self.assertRaises(BadHouse):
            hall_for(None, None)

    def test_the_dead_example(self):
        self.assertIsNone(hall_for(SINGLE, DEAD))
        self.assertIsNotNone(hall_for(SINGLE, put_together(DEAD, pulls_in(0, 1))))


def rising_here(chance, house):
    """is_rising, by folds in an order left to chance, and of rooms left to chance where both numbers are 1 or -1."""
    doors, rooms = list(house.doors), set(range(house.rooms))
    while True:
        folds = [at for at, (near, first, far, second) in enumerate(doors)
                 if near != far and 1 in (abs(first), abs(second))]
        if not folds:
            break
        near, first, far, second = doors.pop(chance.choice(folds))
        gone = chance.choice([room for room, number in ((near, second), (far, first)) for _ in range(2)])
        if abs(first if gone == near else second) != 1 or chance.random() < 0.5:
            gone = far if abs(second) == 1 else near
        kept = near + far - gone
        rooms.discard(gone)
        doors = [(kept, a * first * second, c, d) if b == gone else (b, a, c, d) for b, a, c, d in doors]
        doors = [(b, a, kept, d * first * second) if c == gone else (b, a, c, d) for b, a, c, d in doors]
    return len(rooms) == 1 and len(doors) == 1 and 1 in (abs(doors[0][1]), abs(doors[0][3]))


def told_anew(chance, house):
    """The house with its doors in another order and some of their sides exchanged."""
    doors = [(far, second, near, first) if chance.random() < 0.5 else (near, first, far, second)
             for near, first, far, second in house.doors]
    return House(house.rooms, tuple(chance.sample(doors, len(doors))))


class Rising(unittest.TestCase):
    def test_by_folds_in_any_order(self):
        told = []
        for chance, house in houses_by_chance(116, 600, numbers=(1, 1, 1, 2, 3), most_more=2):
            rising = is_rising(house)
            told.append(rising)
            for _ in range(2):
                self.assertIs(rising_here(chance, house), rising)
                self.assertIs(is_rising(told_anew(chance, house)), rising)
        self.assertGreater(min(told.count(True), told.count(False)), 60)

    def test_by_hand(self):
        for doors, rising in ((((0, 1, 0, 2),), True), (((0, 5, 0, -1),), True), (((0, -1, 0, 1),), True),
                              (((0, 2, 0, 3),), False), (((0, 2, 0, 2),), False), ((), False),
                              (((0, 1, 0, 2), (0, 1, 0, 1)), False), (((0, 1, 0, 1),) * 2, False)):
            self.assertIs(is_rising(House(1, doors)), rising, doors)
        # Two doors between two rooms: the one folded away, the other one becomes a loop.
        for doors, rising in ((((0, 1, 1, 1), (0, 1, 1, 5)), True), (((0, 2, 1, 1), (0, 2, 1, 3)), False),
                              (((0, 2, 1, 1), (0, 1, 1, 3)), True), (((0, 2, 1, 3), (0, 1, 1, 3)), False),
                              (((0, 2, 1, 1), (0, 3, 1, 1)), False), (((0, -7, 1, 1), (1, -1, 0, 7)), False),
                              (((0, -7, 1, 1), (1, -1, 0, 1)), True), (((0, 2, 1, 3), (0, 5, 1, 7)), False),
                              (((0, 2, 1, 3), (0, 1, 0, 1)), False), (((0, 1, 1, 3), (0, 1, 0, 1)), False),
                              (((0, 3, 1, 1), (0, 1, 0, 1)), True), (((0, 3, 1, -1), (1, 1, 0, 4)), False)):
            self.assertIs(is_rising(House(2, doors)), rising, doors)
        self.assertIs(is_rising(House(2, ((0, 1, 1, 1),))), False)

    def test_numbers_that_become_great(self):
        chain = tuple((room, 999, room + 1, 1) for room in range(11))
        # A pull in room 11 is 999 ** 11 pulls in room 0.
        self.assertIs(is_rising(House(12, chain + ((0, 2, 11, 999),))), False)
        self.assertIs(is_rising(House(12, chain + ((0, 1, 11, -999),))), True)
        self.assertIs(is_rising(House(12, chain + ((10, 1, 11, 1),))), False)
        self.assertIs(is_rising(House(12, chain + ((0, 1, 0, 998),))), True)
        chain = tuple((room, 1, room + 1, 999) for room in range(11))
        self.assertIs(is_rising(House(12, chain + ((11, 1, 0, 7),))), True)
        self.assertIs(is_rising(House(12, chain + ((11, 2, 0, 7),))), False)

    def test_errors(self):
        for thing in ODD:
            if thing is not SINGLE:
                for asked in (is_rising, dead_walk):
                    with self.assertRaises(BadHouse):
                        asked(thing)


class DeadWalk(unittest.TestCase):
    def judged(self, chance, house):
        """Judges dead_walk; tells whether there is one."""
        walk = dead_walk(house)
        shown = stretching_walk(house) is None or rising_here(chance, house)
        self.assertIs(walk is None, shown)
        if shown:
            return False
        self.assertTrue(comes_home(house, walk))
        self.assertTrue(is_dead(house, walk))
        self.assertFalse(is_nothing(house, walk))
        return True

    def test_by_chance(self):
        for numbers, more in (((1, 2, 3, 4, 6), 3), ((1, 1, 1, 2), 3), ((2, 3, 4, 6, 8, 9), 2), ((4, 12, 18, 36), 2)):
            told = [self.judged(chance, house) for chance, house in
                    houses_by_chance(117, 200, numbers=numbers, most_rooms=6, most_more=more)]
            self.assertGreater(min(told.count(True), told.count(False)), 15)

    def test_no_hall_shows_it(self):
        looked = 0
        for chance, house in houses_by_chance(118, 120, most_rooms=3, numbers=(1, 2, 3, 4)):
            walk = dead_walk(house)
            if walk is not None:
                self.assertIsNone(hall_for(house, walk))
                for _ in range(2):
                    fitting = chance.choice(fitting_here(house, 4))
                    self.assertEqual(left_by_rests(house, fitting, walk), ([], 0))
                hall = some_hall(chance, house)
                self.assertTrue(all(lead_seat(hall, walk, seat) == seat for seat in range(hall.seats)))
                looked += 1
        self.assertGreater(looked, 50)

    def test_houses_in_which_lengths_fit_and_rising_ones(self):
        chance = random.Random(119)
        for _ in range(60):
            self.assertIsNone(dead_walk(measured_house(chance)))
        for house in (ALONE, TWINS, LEVEL, House(1, ((0, 2, 0, -2),)), House(1, ((0, 1, 0, 7),)),
                      House(2, ((0, 2, 1, 3), (0, -4, 1, 6)))):
            self.assertIsNone(dead_walk(house))

    def test_where_there_is_none_halls_show_all_walks(self):
        rising = shown = 0
        for chance, house in houses_by_chance(121, 300, numbers=(1, 1, 1, 2, 3), most_rooms=4, most_more=1):
            if dead_walk(house) is not None:
                continue
            rising += lengths_of(house) is None
            for walk in (some_shown(chance, house), some_shown(chance, house)):
                self.assertIs(is_dead(house, walk), is_nothing(house, walk))
                shown += not is_nothing(house, walk)
            pattern = some_pattern(chance, house, 6, home=True)
            self.assertTrue(same_rows(dead_for(house, pattern), nothing_for(house, pattern)))
        self.assertGreater(min(rising, shown), 40)

    def test_houses_with_a_long_way_to_a_pass_that_tells(self):
        """A loop that stretches lies far off from whatever else there is, behind doors that change nothing."""
        chance = random.Random(120)
        chain = tuple((room, 1, room + 1, 1) for room in range(10))
        for doors in (((0, 1, 0, 2), (10, 1, 10, 1)), ((0, 1, 0, 2), (10, 1, 10, 2)), ((0, 4, 0, 1), (10, 1, 10, -1)),
                      ((0, 1, 0, 2), (10, 2, 10, 2)), ((0, 4, 0, 6), (10, 1, 10, 1)), ((0, 1, 0, 2), (5, 1, 0, 1))):
            self.assertTrue(self.judged(chance, House(11, chain + doors)), doors)
        self.assertFalse(self.judged(chance, House(11, chain + ((0, 1, 0, 2),))))
        for house in (PAIR, SINGLE, RING, GREAT, DEEP) + RESTS:
            self.assertTrue(self.judged(chance, house))
        deep = tuple((room, 512, room + 1, 1) for room in range(11))
        self.assertTrue(self.judged(chance, House(12, deep + ((11, 512, 11, 3), (0, 5, 0, 5)))))
        # Leaves with the number 1 lead nowhere.
        self.assertTrue(self.judged(chance, House(3, ((0, 2, 0, 3), (0, 6, 1, 1), (0, -6, 2, -1)))))


if __name__ == "__main__":
    unittest.main()
