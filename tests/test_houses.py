"""[10] Houses, their passes and numbers."""

import unittest

from pulledrooms.errors import Apart, BadDoors, BadHouse, BadPass, BadRoom, BadRooms
from pulledrooms.houses import House, numbers_of, passes_from
from tests.helper import ALONE, HUGE, NO_NUMBERS, ODD, PAIR, RING, SINGLE, all_passes, ends, houses_by_chance

LOOP = (0, 1, 0, 1)


def row_of_rooms(rooms):
    return tuple((room, 1, room + 1, 1) for room in range(rooms - 1))


class Rooms(unittest.TestCase):
    def test_one_and_twelve(self):
        self.assertEqual(House(1, ()).rooms, 1)
        self.assertEqual(House(12, row_of_rooms(12)).rooms, 12)

    def test_each_number_between(self):
        for rooms in range(1, 13):
            self.assertEqual(House(rooms, row_of_rooms(rooms)).rooms, rooms)

    def test_wrong_numbers(self):
        for rooms in (0, -1, 13, HUGE, -HUGE):
            with self.subTest(rooms=rooms), self.assertRaises(BadRooms):
                House(rooms, ())

    def test_no_numbers(self):
        for rooms in NO_NUMBERS:
            with self.subTest(rooms=rooms), self.assertRaises(BadRooms):
                House(rooms, ())


class Doors(unittest.TestCase):
    def refused(self, doors, rooms=2):
        with self.subTest(doors=doors), self.assertRaises(BadDoors):
            House(rooms, doors)

    def test_none_twenty_and_twenty_one(self):
        self.assertEqual(House(1, ()).doors, ())
        self.assertEqual(House(1, (LOOP,) * 20).doors, (LOOP,) * 20)
        self.refused((LOOP,) * 21, rooms=1)
        self.refused((LOOP,) * 100, rooms=1)

    def test_a_list_of_doors(self):
        self.refused([])
        self.refused([(0, 1, 1, 1)])

    def test_a_door_that_is_a_list(self):
        self.refused(([0, 1, 1, 1],))
        self.refused(((0, 1, 1, 1), [0, 1, 1, 1]))

    def test_three_and_five_items(self):
        self.refused(((0, 1, 1),))
        self.refused(((0, 1, 1, 1, 1),))
        self.refused(((),))

    def test_wrong_rooms(self):
        for room in (-1, 2, 12, HUGE, True, False, None, "0", (0,)):
            self.refused(((room, 1, 1, 1), (0, 1, 1, 1)))
            self.refused(((0, 1, room, 1), (0, 1, 1, 1)))

    def test_wrong_numbers(self):
        for number in (0, 1000, -1000, HUGE, True, False, None, "1", (1,), [1]):
            self.refused(((0, number, 1, 1),))
            self.refused(((0, 1, 1, number),))

    def test_edges_of_numbers(self):
        for number in (1, -1, 999, -999):
            self.assertEqual(House(2, ((0, number, 1, 1),)).doors, ((0, number, 1, 1),))
            self.assertEqual(House(2, ((0, 1, 1, number),)).doors, ((0, 1, 1, number),))

    def test_a_later_door_is_wrong(self):
        self.refused(((0, 1, 1, 1), (0, 1, 1, 0)))
        self.refused(((0, 1, 1, 1), None))

    def test_other_values(self):
        for doors in ODD:
            self.refused(doors, rooms=1)

    def test_loops_and_equal_doors(self):
        doors = ((1, 2, 1, 3), (0, 1, 1, 1), (0, 1, 1, 1), (1, 2, 1, 3))
        self.assertEqual(House(2, doors).doors, doors)


class Together(unittest.TestCase):
    def apart(self, rooms, doors):
        with self.assertRaises(Apart) as caught:
            House(rooms, doors)
        return caught.exception.room

    def test_the_least_room_apart(self):
        self.assertEqual(self.apart(3, ((0, 1, 0, 5),)), 1)
        self.assertEqual(self.apart(2, ()), 1)
        self.assertEqual(self.apart(3, ((0, 1, 1, 5),)), 2)
        self.assertEqual(self.apart(4, ((3, 1, 0, 1), (1, 1, 2, 1))), 1)
        self.assertEqual(self.apart(4, ((1, 1, 3, 1), (3, 1, 0, 1))), 2)
        self.assertEqual(self.apart(12, row_of_rooms(11)), 11)

    def test_doors_are_taken_either_way(self):
        self.assertEqual(House(3, ((2, 1, 0, 1), (2, 1, 1, 1))).rooms, 3)
        chain = tuple(reversed([(room + 1, 1, room, 1) for room in range(11)]))
        self.assertEqual(House(12, chain).rooms, 12)
        self.assertEqual(House(12, chain[::-1]).rooms, 12)

    def test_order_of_the_errors(self):
        with self.assertRaises(BadRooms):
            House(0, [])
        with self.assertRaises(BadRooms):
            House(True, None)
        with self.assertRaises(BadDoors):
            House(3, ((0, 1, 0, 0),))
        with self.assertRaises(BadDoors):
            House(3, [])
        with self.assertRaises(Apart):
            House(3, ())


class Equality(unittest.TestCase):
    def test_equal_houses(self):
        self.assertTrue(House(2, ((0, 1, 1, 2),)) == House(2, ((0, 1, 1, 2),)))
        self.assertFalse(House(2, ((0, 1, 1, 2),)) != House(2, ((0, 1, 1, 2),)))
        self.assertTrue(House(rooms=1, doors=()) == ALONE)

    def test_unequal_houses(self):
        house = House(2, ((0, 1, 1, 2), (0, 1, 1, 1)))
        for other in (House(2, ((0, 1, 1, 1), (0, 1, 1, 2))), House(2, ((0, 1, 1, 2),)), House(1, ()),
                      House(2, ((1, 2, 0, 1), (0, 1, 1, 1))), House(2, ((0, 1, 1, 2), (0, 1, 1, -1)))):
            self.assertTrue(house != other)
            self.assertFalse(house == other)
        joined = ((0, 1, 1, 1), (1, 1, 2, 1), (0, 1, 2, 1))
        self.assertFalse(House(3, joined) == House(2, joined[:1]))
        self.assertFalse(House(1, (LOOP,)) == House(2, (LOOP, (0, 1, 1, 1))))

    def test_equal_to_no_value_of_another_kind(self):
        for other in ODD + ((1, ()), [1, ()], {"rooms": 1, "doors": ()}):
            if not isinstance(other, House):
                self.assertFalse(ALONE == other)
                self.assertFalse(other == ALONE)
                self.assertTrue(ALONE != other)


class Passes(unittest.TestCase):
    def test_example(self):
        self.assertEqual(passes_from(PAIR, 1), [(0, 1), (1, 0), (1, 1)])
        self.assertEqual(passes_from(PAIR, 0), [(0, 0)])
        self.assertEqual(numbers_of(PAIR, (0, 1)), (1, 3, 0, 2))
        self.assertEqual(numbers_of(PAIR, (1, 1)), (1, -2, 1, 1))
        self.assertEqual(numbers_of(PAIR, (0, 0)), (0, 2, 1, 3))
        self.assertEqual(numbers_of(PAIR, (1, 0)), (1, 1, 1, -2))

    def test_none(self):
        self.assertEqual(passes_from(ALONE, 0), [])

    def test_loops_have_both_passes(self):
        self.assertEqual(passes_from(SINGLE, 0), [(0, 0), (0, 1)])
        self.assertEqual(passes_from(House(1, (LOOP, LOOP)), 0), [(0, 0), (0, 1), (1, 0), (1, 1)])

    def test_all_passes_of_many_houses(self):
        for _, house in houses_by_chance(10, 100):
            for room in range(house.rooms):
                wanted = [step for step in all_passes(house) if ends(house, step)[0] == room]
                self.assertEqual(passes_from(house, room), wanted)
            for step in all_passes(house):
                self.assertEqual(numbers_of(house, step), ends(house, step))
                there, arriving, start, leaving = numbers_of(house, (step[0], 1 - step[1]))
                self.assertEqual((start, leaving, there, arriving), ends(house, step))

    def test_wrong_rooms(self):
        for room in NO_NUMBERS + (-1, 4, HUGE):
            with self.subTest(room=room), self.assertRaises(BadRoom):
                passes_from(RING, room)

    def test_wrong_passes(self):
        wrong = ((6, 0), (-1, 0), (0, 2), (0, -1), (0, True), (True, 0), (False, 0), (0, False), (0,), (0, 0, 0),
                 [0, 0], (None, 0), (0, None), ("0", 0), (HUGE, 1))
        for thing in wrong + tuple(thing for thing in ODD if thing != (0, 1)) + ((0, True),):
            with self.subTest(thing=thing), self.assertRaises(BadPass):
                numbers_of(RING, thing)
        with self.assertRaises(BadPass):
            numbers_of(ALONE, (0, 0))

    def test_wrong_houses(self):
        for house in NO_NUMBERS[:-1] + (1, (1, ()), House):
            with self.subTest(house=house):
                with self.assertRaises(BadHouse):
                    passes_from(house, None)
                with self.assertRaises(BadHouse):
                    numbers_of(house, None)


if __name__ == "__main__":
    unittest.main()
