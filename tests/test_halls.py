"""[70], [71] Halls: ropes and ways of finitely many seats."""

import itertools
import random
import unittest
from math import factorial, prod

from pulledrooms.errors import (BadHall, BadHouse, BadMost, BadRopes, BadSeat, BadSeats, BadWalk, BadWays, Elsewhere,
                                NotHome, TooMany, Torn)
from pulledrooms.halls import Hall, arrangement_of, halls_beside, halls_many, led_seat, parting_hall
from pulledrooms.houses import House
from tests.helper import (ALONE, HUGE, ODD, PAIR, RING, SINGLE, carry, houses_by_chance, lead_seat, pull_all,
                          put_together, rounds_here, some_hall, some_house, some_nothing, some_round, some_walk,
                          turned_back)

DOUBLE = House(1, ((0, 1, 0, 2),))
HALL = Hall(DOUBLE, ((1, 2, 0),), ((0, 2, 1),))


def is_hall_here(house, ropes, ways):
    """Whether at each door pulls and the pass lead each seat as the pass and pulls do."""
    for way, (near, first, far, second) in zip(ways, house.doors):
        ahead, behind = pull_all(ropes[near], first), pull_all(ropes[far], second)
        if any(way[ahead[seat]] != behind[way[seat]] for seat in range(len(way))):
            return False
    return True


def halls_here(house, seats):
    """All Halls with so many seats, each tried, as pairs (ropes, ways)."""
    orders = list(itertools.permutations(range(seats)))
    for ropes in itertools.product(orders, repeat=house.rooms):
        choices = []
        for near, first, far, second in house.doors:
            ahead, behind = pull_all(ropes[near], first), pull_all(ropes[far], second)
            choices.append([way for way in orders
                            if all(way[ahead[seat]] == behind[way[seat]] for seat in range(seats))])
        for ways in itertools.product(*choices):
            yield ropes, ways


def small_houses(seed, many, numbers=(1, 2, 3, 4, 6)):
    chance = random.Random(seed)
    found = []
    while len(found) < many:
        house = some_house(chance, numbers=numbers, most_rooms=3, most_more=2)
        if house.rooms + len(house.doors) <= 5:
            found.append((chance, house))
    return found


class Made(unittest.TestCase):
    def test_example(self):
        self.assertEqual((HALL.house, HALL.ropes, HALL.ways, HALL.seats), (DOUBLE, ((1, 2, 0),), ((0, 2, 1),), 3))
        with self.assertRaises(Torn) as caught:
            Hall(DOUBLE, ((1, 2, 0),), ((0, 1, 2),))
        self.assertEqual(caught.exception.door, 0)

    def test_ropes(self):
        for thing in ODD + ((), ((),), ([0],), [(0,)], ((1,),), ((0, 0),), ((0, True),), ((False, 1),), ((0, 2),),
                            ((0,), (0,)), ((-1, 0),), ((0, 1), (0, 1)), (0,), ("0",)):
            with self.assertRaises(BadRopes):
                Hall(SINGLE, thing, None)
        for thing in (((0,), (0, 1)), ((0, 1), (0,)), ((0, 1),), ((0, 1), [0, 1]), ((0, 1), (1, 1)), ((0,), ())):
            with self.assertRaises(BadRopes):
                Hall(PAIR, thing, None)
        with self.assertRaises(BadHouse):
            Hall(None, None, None)

    def test_ways(self):
        for thing in ODD + ((), ((0, 1),), ((0, 1, 1),), ((0, 1, True),), ([0, 1, 2],), [(0, 1, 2)], ((0, 1, 3),),
                            ((0, 1, 2, 3),), ((0, 1, 2), (0, 1, 2)), ((0, 1, -1),)):
            with self.assertRaises(BadWays):
                Hall(DOUBLE, ((1, 2, 0),), thing)
        self.assertEqual(Hall(ALONE, ((1, 0),), ()).ways, ())
        with self.assertRaises(BadWays):
            Hall(ALONE, ((1, 0),), [])

    def test_the_least_torn_door(self):
        house = House(2, ((0, 1, 1, 1), (0, 1, 0, -1), (1, 2, 1, 4), (0, 1, 1, 1)))
        still, turn = (0, 1, 2), (1, 2, 0)
        for ropes, ways, door in (((turn, turn), (still, still, still, still), 1),
                                  ((turn, turn), (still, (0, 2, 1), still, still), 2),
                                  ((turn, turn), (still, (0, 2, 1), (1, 0, 2), (1, 0, 2)), 3),
                                  ((still, turn), (still, still, still, still), 0)):
            with self.assertRaises(Torn) as caught:
                Hall(house, ropes, ways)
            self.assertEqual(caught.exception.door, door)
        self.assertEqual(Hall(house, (turn, turn), (still, (0, 2, 1), (1, 0, 2), turn)).seats, 3)

    def test_each_one_tried(self):
        made = 0
        for chance, house in houses_by_chance(70, 400, numbers=(1, 2, 3), most_rooms=2, most_more=2):
            seats = chance.randint(1, 4)
            ropes = [tuple(chance.sample(range(seats), seats)) for _ in range(house.rooms)]
            ways = [tuple(chance.sample(range(seats), seats)) for _ in house.doors]
            torn = [door for door, way in enumerate(ways)
                    if not is_hall_here(House(house.rooms, house.doors[door:door + 1]) if house.rooms == 1 else
                                        House(2, house.doors[door:door + 1] + ((0, 1, 1, 1),)), ropes, [way])]
            if torn:
                with self.assertRaises(Torn) as caught:
                    Hall(house, tuple(ropes), tuple(ways))
                self.assertEqual(caught.exception.door, torn[0])
            else:
                self.assertEqual(Hall(house, tuple(ropes), tuple(ways)).seats, seats)
                made += 1
        self.assertGreater(made, 100)

    def test_equality(self):
        self.assertEqual(HALL, Hall(House(1, ((0, 1, 0, 2),)), ((1, 2, 0),), ((0, 2, 1),)))
        for other in (Hall(DOUBLE, ((1, 2, 0),), ((2, 1, 0),)), Hall(DOUBLE, ((2, 0, 1),), ((0, 2, 1),)),
                      Hall(House(1, ((0, 4, 0, 2),)), ((1, 2, 0),), ((0, 2, 1),)), None, HALL.ropes, DOUBLE, 3):
            self.assertTrue(HALL != other and other != HALL)
            self.assertFalse(HALL == other or other == HALL)


class Led(unittest.TestCase):
    def test_pull_by_pull(self):
        led = 0
        for chance, house in houses_by_chance(71, 150, most_rooms=3, numbers=(1, 2, 3, 4)):
            hall = some_hall(chance, house)
            walk = some_walk(chance, house, chance.randint(0, 8))
            found = arrangement_of(hall, walk)
            self.assertEqual(found, tuple(lead_seat(hall, walk, seat) for seat in range(hall.seats)))
            self.assertEqual([led_seat(hall, walk, seat) for seat in range(hall.seats)], list(found))
            led += found != tuple(range(hall.seats))
            backward = put_together(walk, turned_back(house, walk))
            self.assertEqual(arrangement_of(hall, backward), tuple(range(hall.seats)))
        self.assertGreater(led, 60)

    def test_walks_that_are_one(self):
        for chance, house in houses_by_chance(72, 100, most_rooms=3, numbers=(1, 2, 3, 4)):
            hall = some_hall(chance, house)
            nothing = some_nothing(chance, house, 6)
            self.assertEqual(arrangement_of(hall, nothing), tuple(range(hall.seats)))
            walk = some_walk(chance, house, 5)
            if walk[2]:
                other = carry(house, walk, chance.randrange(len(walk[2])), chance.choice((-HUGE, -1, 1, HUGE)))
                self.assertEqual(arrangement_of(hall, other), arrangement_of(hall, walk))

    def test_so_many_pulls(self):
        rope = (1, 2, 3, 4, 0, 6, 5, 7)
        hall = Hall(ALONE, (rope,), ())
        for pulls in (HUGE, -HUGE, 10 ** 59, 7, -1, 0):
            wanted = pull_all(rope, pulls % 10)
            self.assertEqual(arrangement_of(hall, (0, (pulls,), ())), wanted)
            self.assertEqual([led_seat(hall, (0, (pulls,), ()), seat) for seat in range(8)], list(wanted))

    def test_five_thousand_seats(self):
        seats = 5000
        rope = tuple((seat + 7) % seats for seat in range(seats))
        hall = Hall(House(1, ((0, 1, 0, -1),)), (rope,), (tuple(-seat % seats for seat in range(seats)),))
        walk = (0, (HUGE, 5), ((0, 0),))
        self.assertEqual(led_seat(hall, walk, 4999), (1 - 7 * HUGE + 35) % seats)
        self.assertEqual(arrangement_of(hall, walk)[4999], (1 - 7 * HUGE + 35) % seats)

    def test_errors(self):
        walk = (0, (1, 0, 0), ((0, 0), (0, 1)))
        for thing in ODD + (DOUBLE, (DOUBLE, HALL.ropes, HALL.ways), Hall):
            with self.assertRaises(BadHall):
                led_seat(thing, None, None)
            with self.assertRaises(BadHall):
                arrangement_of(thing, None)
        for thing in ODD + ((1, (0,), ()), (0, (1, 0), ((1, 0),)), (0, (True,), ())):
            with self.assertRaises(BadWalk):
                led_seat(HALL, thing, None)
            with self.assertRaises(BadWalk):
                arrangement_of(HALL, thing)
        for seat in (3, -1, True, None, "0", (0,), HUGE):
            with self.assertRaises(BadSeat):
                led_seat(HALL, walk, seat)


class Many(unittest.TestCase):
    def test_by_trying_all(self):
        for _, house in small_houses(73, 60):
            for seats in (1, 2, 3):
                self.assertEqual(halls_many(house, seats), sum(1 for _ in halls_here(house, seats)), house.doors)

    def test_by_rounds(self):
        for _, house in houses_by_chance(74, 25, most_rooms=1, most_more=3):
            for seats in (4, 5):
                many = 0
                for rope in itertools.permutations(range(seats)):
                    ways = 1
                    for _, first, _, second in house.doors:
                        ours = [len(seats) for seats in rounds_here(pull_all(rope, first))]
                        theirs = [len(seats) for seats in rounds_here(pull_all(rope, second))]
                        ways *= sorted(ours) == sorted(theirs)
                        ways *= prod(factorial(ours.count(t)) * t ** ours.count(t) for t in set(ours))
                    many += ways
                self.assertEqual(halls_many(house, seats), many)

    def test_examples_and_edges(self):
        self.assertEqual([halls_many(DOUBLE, seats) for seats in (1, 2)], [1, 2])
        self.assertEqual([halls_many(ALONE, seats) for seats in range(1, 6)], [1, 2, 6, 24, 120])
        chain = House(12, tuple((room, 1, room + 1, 1) for room in range(11)))
        self.assertEqual(halls_many(chain, 1), 1)
        for house, seats in ((chain, 2), (PAIR, 5), (House(4, chain.doors[:3]), 4), (House(5, chain.doors[:4]), 3)):
            with self.assertRaises(TooMany) as caught:
                halls_many(house, seats)
            self.assertEqual(caught.exception.most, 4000)
        self.assertEqual(halls_many(House(11, chain.doors[:10]), 2), 2 ** 11)
        self.assertEqual(halls_many(RING, 2), sum(1 for _ in halls_here(RING, 2)))
        self.assertEqual(halls_many(House(2, ((0, 1, 1, 1),)), 4), 576)
        for seats in (0, 6, True, None, -1, "1", HUGE, (1,)):
            with self.assertRaises(BadSeats):
                halls_many(chain, seats)


class Parting(unittest.TestCase):
    def judged(self, house, walk, most):
        """Judges a parting hall by trying all halls with fewer seats; tells its seats, or None."""
        hall = parting_hall(house, walk, most)
        fewer = most if hall is None else hall.seats - 1
        for seats in range(1, fewer + 1):
            for ropes, ways in halls_here(house, seats):
                found = Hall(house, ropes, ways)
                self.assertTrue(all(lead_seat(found, walk, seat) == seat for seat in range(seats)))
        if hall is None:
            return None
        self.assertTrue(hall.house == house and hall.seats <= most)
        self.assertTrue(is_hall_here(house, hall.ropes, hall.ways))
        self.assertTrue(any(lead_seat(hall, walk, seat) != seat for seat in range(hall.seats)))
        return hall.seats

    def test_by_trying_all(self):
        told = []
        for chance, house in small_houses(75, 60, numbers=(1, 2, 3, 6)):
            walk = some_round(chance, house, chance.randint(0, 4), pulls=(-3, 6))
            told.append(self.judged(house, walk, chance.randint(1, 3)))
        for chance, house in small_houses(76, 20):
            self.assertIsNone(self.judged(house, some_nothing(chance, house, 4), 2))
        self.assertTrue({None, 2, 3} <= set(told))

    def test_pulls(self):
        self.assertEqual(parting_hall(ALONE, (0, (3,), ()), 3), Hall(ALONE, ((1, 0),), ()))
        self.assertEqual(self.judged(ALONE, (0, (2,), ()), 3), 3)
        self.assertIsNone(parting_hall(ALONE, (0, (6,), ()), 3))
        self.assertIsNone(parting_hall(ALONE, (0, (2,), ()), 2))
        self.assertEqual(parting_hall(ALONE, (0, (HUGE - 1,), ()), 3).seats, 3)
        self.assertIsNone(parting_hall(ALONE, (0, (1,), ()), 1))

    def test_errors(self):
        five = House(1, ((0, 1, 0, 1),) * 5)
        self.assertEqual(parting_hall(five, (0, (1,), ()), 2).seats, 2)
        for house in (House(1, five.doors + ((0, 1, 0, 1),)), House(2, ((0, 1, 1, 1),) * 5),
                      House(4, ((0, 1, 1, 1), (1, 1, 2, 1), (2, 1, 3, 1)))):
            with self.assertRaises(TooMany) as caught:
                parting_hall(house, (0, (1,), ()), 3)
            self.assertEqual(caught.exception.most, 6)
            with self.assertRaises(BadMost):
                parting_hall(house, (0, (1,), ()), 4)
        for most in (0, 4, True, None, "1", -1, HUGE):
            with self.assertRaises(BadMost):
                parting_hall(PAIR, (0, (1,), ()), most)
        with self.assertRaises(NotHome):
            parting_hall(PAIR, (0, (1, 0), ((0, 0),)), 0)


class Beside(unittest.TestCase):
    def test_in_either_sequence(self):
        for chance, house in houses_by_chance(77, 60, most_rooms=3, numbers=(1, 2, 3, 4)):
            hall, other = some_hall(chance, house), some_hall(chance, house)
            for one, more in ((hall, other), (other, hall), (hall, hall)):
                both = halls_beside(one, more)
                self.assertEqual((both.house, both.seats), (house, one.seats + more.seats))
                walk = some_walk(chance, house, 5)
                wanted = [lead_seat(one, walk, seat) for seat in range(one.seats)]
                wanted += [one.seats + lead_seat(more, walk, seat) for seat in range(more.seats)]
                self.assertEqual(arrangement_of(both, walk), tuple(wanted))

    def test_example_and_errors(self):
        single = Hall(DOUBLE, ((0,),), ((0,),))
        self.assertEqual(halls_beside(HALL, single), Hall(DOUBLE, ((1, 2, 0, 3),), ((0, 2, 1, 3),)))
        self.assertEqual(halls_beside(single, HALL), Hall(DOUBLE, ((0, 2, 3, 1),), ((0, 1, 3, 2),)))
        for thing in ODD:
            with self.assertRaises(BadHall):
                halls_beside(thing, HALL)
            with self.assertRaises(BadHall):
                halls_beside(HALL, thing)
        with self.assertRaises(Elsewhere):
            halls_beside(HALL, Hall(House(1, ((0, 2, 0, 1),)), ((0,),), ((0,),)))


if __name__ == "__main__":
    unittest.main()
