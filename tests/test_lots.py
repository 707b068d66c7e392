"""[2] (h), [80], [81] Lots of walks told by halls."""

import unittest
from fractions import Fraction
from math import factorial

from pulledrooms.errors import BadHall, BadHouse, BadMany, BadRoom, BadSeat, BadWalk, Elsewhere, NotHome, TooMany
from pulledrooms.halls import Hall, arrangement_of, halls_beside, halls_many
from pulledrooms.houses import House
from pulledrooms.lots import are_one_lot, beside_many, lead_to, lots_many, meeting_hall, within
from tests.helper import (ALONE, HUGE, NO_NUMBERS, ODD, PAIR, RING, SINGLE, all_passes, bare, done, ends,
                          houses_by_chance, lead_seat, met_by, pulls_in, put_together, rooms_of, some_hall, some_round,
                          turned_back)
from tests.test_halls import halls_here, small_houses

DOUBLE = House(1, ((0, 1, 0, 2),))
HALL = Hall(DOUBLE, ((1, 2, 0),), ((0, 2, 1),))
ROPES = Hall(ALONE, ((1, 2, 0, 4, 3, 5),), ())


def some_halls(seed, many, **more):
    """So many triples of a chance, a Hall and one of its seats."""
    found = []
    for chance, house in houses_by_chance(seed, many, most_rooms=3, numbers=(1, 2, 3, 4)):
        hall = some_hall(chance, house, **more)
        found.append((chance, hall, chance.randrange(hall.seats)))
    return found


def with_seats_anew(chance, hall):
    """(the Hall with seats numbered otherwise in each room, for each room the new numbers)."""
    orders = [chance.sample(range(hall.seats), hall.seats) for _ in hall.ropes]

    def anew(arrangement, order, other):
        there = [None] * hall.seats
        for seat, led in enumerate(arrangement):
            there[order[seat]] = other[led]
        return tuple(there)

    ropes = [anew(rope, order, order) for rope, order in zip(hall.ropes, orders)]
    ways = [anew(way, orders[door[0]], orders[door[2]]) for way, door in zip(hall.ways, hall.house.doors)]
    return Hall(hall.house, tuple(ropes), tuple(ways)), orders


def pairs_met(hall, other, room, seat, place):
    """All pairs of seats to which walks from the room home lead the seat of hall and the place of other."""
    met, waiting = {(room, seat, place)}, [(room, seat, place)]
    while waiting:
        here, one, two = waiting.pop()
        leads = [(here, hall.ropes[here][one], other.ropes[here][two])]
        for step in all_passes(hall.house):
            start, _, there, _ = ends(hall.house, step)
            if start == here:
                walk = bare(here, [step])
                leads.append((there, lead_seat(hall, walk, one), lead_seat(other, walk, two)))
        for lead in leads:
            if lead not in met:
                met.add(lead)
                waiting.append(lead)
    return [(one, two) for here, one, two in met if here == room]


class Beside(unittest.TestCase):
    def test_within(self):
        told = []
        for chance, hall, seat in some_halls(160, 200):
            walk = some_round(chance, hall.house, chance.randint(0, 4), pulls=(-9, 9))
            there = lead_seat(hall, walk, seat) == seat
            self.assertIs(within(hall, walk, seat), there)
            told.append(there)
        self.assertGreater(min(told.count(True), told.count(False)), 40)
        self.assertIs(within(HALL, pulls_in(0, 3 * HUGE), 1), True)
        self.assertIs(within(HALL, pulls_in(0, 10 ** 60 - 3), 1), False)

    def test_beside_and_leads_by_a_search(self):
        apart = 0
        for chance, hall, seat in some_halls(161, 200, parts=3):
            for room in range(hall.house.rooms):
                beside = {at for here, at in met_by(hall, room, seat) if here == room}
                self.assertEqual(beside_many(hall, room, seat), len(beside))
                for other in chance.sample(range(hall.seats), min(3, hall.seats)) + [seat]:
                    walk = lead_to(hall, room, seat, other)
                    if other not in beside:
                        self.assertIsNone(walk)
                        apart += 1
                        continue
                    self.assertEqual((walk[0], rooms_of(hall.house, walk)[-1]), (room, room))
                    self.assertEqual(lead_seat(hall, walk, seat), other)
        self.assertGreater(apart, 100)

    def test_by_hand(self):
        self.assertEqual([beside_many(ROPES, 0, seat) for seat in range(6)], [3, 3, 3, 2, 2, 1])
        self.assertIsNone(lead_to(ROPES, 0, 0, 3))
        self.assertEqual(beside_many(HALL, 0, 2), 3)
        # In room 0 a seat lies beside another one only by a way through room 1.
        hall = Hall(House(2, ((0, 2, 1, 3),)), ((0, 1, 2), (1, 2, 0)), ((0, 1, 2),))
        self.assertEqual((beside_many(hall, 0, 0), beside_many(hall, 1, 0)), (3, 3))
        walk = lead_to(hall, 0, 0, 2)
        self.assertEqual(lead_seat(hall, walk, 0), 2)
        # Here the seats lie beside one another in neither room, though the way leads each elsewhere.
        hall = Hall(House(2, ((0, 2, 1, 3),)), ((0, 1, 2), (0, 1, 2)), ((1, 2, 0),))
        self.assertEqual((beside_many(hall, 0, 0), beside_many(hall, 1, 0)), (1, 1))
        self.assertIsNone(lead_to(hall, 1, 0, 1))

    def test_many_seats(self):
        level = House(1, ((0, 1, 0, 1),))
        wide = Hall(level, (tuple(range(5000)),), (tuple(range(1, 5000)) + (0,),))
        self.assertEqual(beside_many(wide, 0, 7), 5000)
        walk = lead_to(wide, 0, 7, 9)
        self.assertEqual(arrangement_of(wide, walk)[7], 9)
        long = Hall(ALONE, (tuple(range(1, 5000)) + (0,),), ())
        self.assertEqual(beside_many(long, 0, 7), 5000)
        self.assertEqual(arrangement_of(long, lead_to(long, 0, 4000, 1))[4000], 1)
        still = Hall(ALONE, (tuple(range(5000)),), ())
        self.assertEqual((beside_many(still, 0, 7), lead_to(still, 0, 7, 8)), (1, None))

    def test_some_power_is_in_the_lot(self):
        for chance, hall, seat in some_halls(162, 60):
            walk = some_round(chance, hall.house, chance.randint(0, 3))
            many = beside_many(hall, walk[0], seat)
            self.assertTrue(any(within(hall, done(walk, times), seat) for times in range(1, many + 1)))
            other = some_round(chance, hall.house, 2, room=walk[0])
            if within(hall, walk, seat):
                self.assertIs(within(hall, turned_back(hall.house, walk), seat), True)
                self.assertIs(within(hall, put_together(walk, other), seat), within(hall, other, seat))

    def test_errors(self):
        for thing in ODD + (DOUBLE, HALL.ropes):
            for asked, more in ((within, 2), (beside_many, 2), (lead_to, 3)):
                with self.assertRaises(BadHall):
                    asked(thing, *[None] * more)
        for thing in NO_NUMBERS + (-1, 3, HUGE):
            with self.assertRaises(BadSeat):
                within(HALL, pulls_in(0, 1), thing)
            with self.assertRaises(BadSeat):
                beside_many(HALL, 0, thing)
            with self.assertRaises(BadSeat):
                lead_to(HALL, 0, thing, None)
            with self.assertRaises(BadSeat):
                lead_to(HALL, 0, 2, thing)
        for thing in NO_NUMBERS + (-1, 1):
            for asked, more in ((beside_many, 1), (lead_to, 2)):
                with self.assertRaises(BadRoom):
                    asked(HALL, thing, *[None] * more)
        for thing in ODD + ((0, (True,), ()), bare(0, [(1, 0)])):
            with self.assertRaises(BadWalk):
                within(HALL, thing, None)
        with self.assertRaises(NotHome):
            within(Hall(PAIR, ((0,), (0,)), ((0,), (0,))), bare(0, [(0, 0)]), None)


class OneLot(unittest.TestCase):
    def judged(self, hall, other, room, seat, place):
        one = all((mine == seat) == (their == place) for mine, their in pairs_met(hall, other, room, seat, place))
        self.assertIs(are_one_lot(hall, other, room, seat, place), one)
        self.assertIs(are_one_lot(other, hall, room, place, seat), one)
        return one

    def test_seats_numbered_otherwise(self):
        told = []
        for chance, hall, seat in some_halls(163, 150):
            other, orders = with_seats_anew(chance, hall)
            for room in range(hall.house.rooms):
                self.assertIs(are_one_lot(hall, other, room, seat, orders[room][seat]), True)
                told.append(self.judged(hall, other, room, seat, chance.randrange(hall.seats)))
        self.assertGreater(min(told.count(True), told.count(False)), 40)

    def test_halls_with_more_seats(self):
        told = []
        for chance, hall, seat in some_halls(164, 150, most=3):
            more = some_hall(chance, hall.house, most=3)
            both = halls_beside(more, hall)
            room = chance.randrange(hall.house.rooms)
            self.assertIs(are_one_lot(hall, both, room, seat, more.seats + seat), True)
            self.assertIs(are_one_lot(both, hall, room, more.seats + seat, seat), True)
            told.append(self.judged(hall, both, room, seat, chance.randrange(both.seats)))
            told.append(self.judged(hall, more, room, seat, chance.randrange(more.seats)))
        self.assertGreater(min(told.count(True), told.count(False)), 60)

    def test_by_hand(self):
        for one, other, seat, place, same in (((1, 2, 0), (0,), 0, 0, False), ((1, 2, 0), (2, 0, 1), 0, 1, True),
                                              ((1, 0, 2), (0,), 2, 0, True), ((1, 0, 2), (0,), 0, 0, False),
                                              ((1, 2, 3, 0), (1, 0), 0, 0, False), ((1, 0), (1, 2, 3, 0), 0, 0, False)):
            hall, more = Hall(ALONE, (one,), ()), Hall(ALONE, (other,), ())
            self.assertIs(are_one_lot(hall, more, 0, seat, place), same)
            self.assertIs(self.judged(hall, more, 0, seat, place), same)

    def test_errors(self):
        other = Hall(DOUBLE, ((0,),), ((0,),))
        for thing in ODD + (DOUBLE,):
            for asked, more in ((are_one_lot, (None, None, None)), (meeting_hall, ())):
                with self.assertRaises(BadHall):
                    asked(thing, None, *more)
                with self.assertRaises(BadHall):
                    asked(HALL, thing, *more)
        for asked, more in ((are_one_lot, (None, None, None)), (meeting_hall, ())):
            for house in (House(1, ((0, 2, 0, 1),)), House(1, ((0, 1, 0, 2),) * 2), House(2, ((0, 1, 1, 2),))):
                with self.assertRaises(Elsewhere):
                    asked(HALL, Hall(house, ((0,),) * house.rooms, ((0,),) * len(house.doors)), *more)
        for thing in NO_NUMBERS + (-1, 1):
            with self.assertRaises(BadRoom):
                are_one_lot(HALL, other, thing, None, None)
        for thing in NO_NUMBERS + (-1, 3, HUGE):
            with self.assertRaises(BadSeat):
                are_one_lot(HALL, other, 0, thing, None)
            with self.assertRaises(BadSeat):
                are_one_lot(other, HALL, 0, 0, thing)
        for thing in NO_NUMBERS + (-1, 1, 2):
            with self.assertRaises(BadSeat):
                are_one_lot(HALL, other, 0, 2, thing)


def told_sum(house, many):
    """The sum of [80]."""
    def halls(seats):
        return Fraction(halls_many(house, seats), factorial(seats) ** (house.rooms - 1))

    lots = []
    for seats in range(1, many + 1):
        less = sum(halls(seats - k) / factorial(seats - k) * lots[k - 1] for k in range(1, seats))
        lots.append(halls(seats) / factorial(seats - 1) - less)
    return lots[-1]


def counted(house, many, room):
    """How many lots for the room there are, by telling apart the lots of all Halls with so many seats."""
    found = []
    for ropes, ways in halls_here(house, many):
        hall = Hall(house, ropes, ways)
        beside = {at for here, at in met_by(hall, room, 0) if here == room}
        if len(beside) == many and not any(are_one_lot(hall, other, room, 0, 0) for other in found):
            found.append(hall)
    return len(found)


class LotsMany(unittest.TestCase):
    def test_by_the_told_sum(self):
        told = set()
        for chance, house in houses_by_chance(165, 150, most_rooms=3, numbers=(1, 2, 3, 4, 6)):
            for many in range(1, 4 if house.rooms > 2 else 5):
                lots = lots_many(house, many)
                self.assertIs(type(lots), int)
                self.assertEqual(lots, told_sum(house, many))
                told.add(lots)
        self.assertGreater(len(told), 20)

    def test_by_counting(self):
        for _, house in small_houses(166, 25):
            for many in (1, 2, 3) if house.rooms < 3 else (1, 2):
                for room in {0, house.rooms - 1}:
                    self.assertEqual(lots_many(house, many), counted(house, many, room), (house.doors, many))
        for house in (ALONE, DOUBLE, SINGLE, House(1, ((0, 2, 0, 2),))):
            self.assertEqual(lots_many(house, 4), counted(house, 4, 0))

    def test_by_hand(self):
        self.assertEqual([lots_many(ALONE, many) for many in (1, 2, 3, 4)], [1, 1, 1, 1])
        self.assertEqual([lots_many(DOUBLE, many) for many in (1, 2)], [1, 1])
        level = House(1, ((0, 1, 0, 1),))
        self.assertEqual([lots_many(level, many) for many in (1, 2, 3, 4)], [1, 3, 4, 7])

    def test_how_many_are_let(self):
        for many in NO_NUMBERS + (0, 5, -1, HUGE):
            with self.assertRaises(BadMany):
                lots_many(RING, many)
        line = tuple((0, 1, room, 1) for room in range(1, 12))
        self.assertEqual(lots_many(House(12, line), 1), 1)
        self.assertEqual(lots_many(House(11, line[:10]), 2), 1)
        self.assertEqual(lots_many(House(4, line[:3]), 3), 1)
        self.assertEqual(lots_many(House(2, line[:1]), 4), 1)
        for rooms, many in ((12, 2), (5, 3), (3, 4), (12, 4)):
            house = House(rooms, line[:rooms - 1])
            with self.assertRaises(TooMany) as caught:
                lots_many(house, many)
            self.assertEqual(caught.exception.most, 4000)
        with self.assertRaises(BadHouse):
            lots_many(None, None)


class Meeting(unittest.TestCase):
    def test_pair_by_pair(self):
        for chance, hall, seat in some_halls(167, 80):
            other = some_hall(chance, hall.house)
            both = meeting_hall(hall, other)
            self.assertEqual((both.house, both.seats), (hall.house, hall.seats * other.seats))
            for room, rope in enumerate(both.ropes):
                for at, there in enumerate(rope):
                    one, two = divmod(at, other.seats)
                    self.assertEqual(divmod(there, other.seats), (hall.ropes[room][one], other.ropes[room][two]))
            for door, way in enumerate(both.ways):
                for at, there in enumerate(way):
                    one, two = divmod(at, other.seats)
                    self.assertEqual(divmod(there, other.seats), (hall.ways[door][one], other.ways[door][two]))
            walk = some_round(chance, hall.house, 3)
            place = chance.randrange(other.seats)
            self.assertIs(within(both, walk, seat * other.seats + place),
                          within(hall, walk, seat) and within(other, walk, place))

    def test_by_hand(self):
        both = meeting_hall(Hall(ALONE, ((1, 0),), ()), Hall(ALONE, ((1, 2, 0),), ()))
        self.assertEqual(both, Hall(ALONE, ((4, 5, 3, 1, 2, 0),), ()))
        both = meeting_hall(Hall(ALONE, ((1, 2, 0),), ()), Hall(ALONE, ((1, 0),), ()))
        self.assertEqual(both, Hall(ALONE, ((3, 2, 5, 4, 1, 0),), ()))
        self.assertEqual(meeting_hall(HALL, Hall(DOUBLE, ((0,),), ((0,),))), HALL)

    def test_five_thousand_seats_and_more(self):
        def still(seats):
            return Hall(ALONE, (tuple(range(seats)),), ())

        self.assertEqual(meeting_hall(still(50), still(100)), still(5000))
        self.assertEqual(meeting_hall(still(1), still(5000)), still(5000))
        for one, other in ((3, 1667), (71, 71), (5000, 2)):
            with self.assertRaises(TooMany) as caught:
                meeting_hall(still(one), still(other))
            self.assertEqual(caught.exception.most, 5000)
        with self.assertRaises(Elsewhere):
            meeting_hall(still(5000), HALL)


if __name__ == "__main__":
    unittest.main()
