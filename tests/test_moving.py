"""[40], [41] States, how passes move them, and their classes."""

import random
import unittest

from pulledrooms.errors import BadHouse, BadState, TooMany
from pulledrooms.houses import House
from pulledrooms.moving import class_of, endless_pair, is_state, moved_by, next_states
from pulledrooms.weights import growth_of
from tests.helper import (ALONE, GREAT, HUGE, ODD, PAIR, RING, SINGLE, all_passes, class_here, ends, go_over,
                          houses_by_chance, some_state, times_in)

DOUBLING = House(1, ((0, 1, 0, 2),))
CHAIN = House(1, ((0, 2, 0, 3), (0, 3, 0, 8)))
FORK = House(1, ((0, 2, 0, 3), (0, 2, 0, 5)))


def step_by_step(house, state, way):
    for step in way:
        state = go_over(house, state, step)
        if state is None:
            return None
    return state


class States(unittest.TestCase):
    def test_what_is_a_state(self):
        for state in ((0, 1), (1, -1), (1, HUGE), (0, -HUGE)):
            self.assertIs(is_state(PAIR, state), True)
        for thing in ((0, 0), (2, 1), (-1, 1), (True, 1), (0, True), (0, False), (0,), (0, 1, 1), [0, 1], (0, "1"),
                      (0, None), (0, (1,)), (None, 1)) + tuple(thing for thing in ODD if thing != (0, 1)):
            self.assertIs(is_state(PAIR, thing), False, thing)
            for asked in (next_states, endless_pair, class_of):
                with self.assertRaises(BadState):
                    asked(PAIR, thing)
            with self.assertRaises(BadState):
                moved_by(PAIR, thing, ())
        with self.assertRaises(BadHouse):
            is_state(None, (0, 1))

    def test_examples(self):
        self.assertEqual(next_states(SINGLE, (0, 6)), [(0, 4), (0, 9)])
        self.assertEqual(moved_by(SINGLE, (0, 8), ((0, 0), (0, 0), (0, 0))), (0, 27))
        self.assertIsNone(moved_by(SINGLE, (0, 9), ((0, 0), (0, 0))))

    def test_next_states_are_those_of_single_passes(self):
        for chance, house in houses_by_chance(40, 200):
            state = some_state(chance, house)
            there = {go_over(house, state, step) for step in all_passes(house)} - {None}
            found = next_states(house, state)
            self.assertEqual(found, sorted(there))
            self.assertIsInstance(found, list)
            for step in all_passes(house):
                self.assertEqual(moved_by(house, state, (step,)), go_over(house, state, step))

    def test_a_state_moved_to_itself_and_by_several_passes_to_one(self):
        house = House(1, ((0, 3, 0, 3), (0, 1, 0, -1), (0, 2, 0, 4), (0, 1, 0, 2)))
        self.assertEqual(next_states(house, (0, 3)), [(0, -3), (0, 3), (0, 6)])
        self.assertEqual(next_states(house, (0, -2)), [(0, -4), (0, -1), (0, 2)])
        self.assertEqual(next_states(ALONE, (0, 5)), [])
        self.assertEqual(class_of(ALONE, (0, -5)), [(0, -5)])
        self.assertIsNone(endless_pair(ALONE, (0, 5)))

    def test_what_is_no_way(self):
        for thing in ODD + ([], [(0, 0)], ((0, 0), None), ((0, False),), ((False, 0),), ((0, 2),), ((1, 0),),
                            ([0, 0],), ((0, 0, 0),), (0, 0)):
            if thing != ():
                self.assertIsNone(moved_by(SINGLE, (0, 12), thing), thing)
        self.assertEqual(moved_by(SINGLE, (0, 12), ()), (0, 12))
        # Door 0 leads from room 0 to room 1, so it cannot be passed twice from room 0.
        self.assertIsNone(moved_by(PAIR, (0, 36), ((0, 0), (0, 0))))

    def test_ways_back_and_so_many_times(self):
        moved = 0
        for chance, house in houses_by_chance(41, 400):
            state = some_state(chance, house)
            way, here = [], state
            for _ in range(chance.randint(0, 5)):
                step = chance.choice(all_passes(house) or [None])
                if step is not None and go_over(house, here, step) is not None:
                    way.append(step)
                    here = go_over(house, here, step)
            self.assertEqual(moved_by(house, state, tuple(way)), here)
            homeward = tuple((door, 1 - side) for door, side in reversed(way))
            self.assertEqual(moved_by(house, here, homeward), state)
            many = chance.choice((-3, -1, 2, 7, HUGE))
            self.assertEqual(moved_by(house, (state[0], state[1] * many), tuple(way)), (here[0], here[1] * many))
            moved += len(way)
            other = tuple(chance.choice(all_passes(house) or [(0, 0)]) for _ in range(3))
            if all_passes(house):
                self.assertEqual(moved_by(house, state, other), step_by_step(house, state, other))
        self.assertGreater(moved, 200)

    def test_great_numbers(self):
        self.assertEqual(moved_by(GREAT, (0, 999 * HUGE), ((0, 0),)), (1, -998 * HUGE))
        self.assertEqual(next_states(SINGLE, (0, -6 * 10 ** 59)), [(0, -9 * 10 ** 59), (0, -4 * 10 ** 59)])


class Classes(unittest.TestCase):
    def judged(self, house, state):
        """Judges endless_pair and class_of by a search, and tells what they told."""
        pair = endless_pair(house, state)
        found, whole = class_here(house, state, 6000 if pair is None else 600)
        if pair is None:
            if whole and len(found) <= 5000:
                self.assertEqual(class_of(house, state), sorted(found))
                return "finite"
            with self.assertRaises(TooMany) as caught:
                class_of(house, state)
            self.assertEqual(caught.exception.most, 5000)
            return "many"
        self.assertFalse(whole)
        room, number, times = pair
        self.assertIsInstance(pair, tuple)
        self.assertTrue(type(times) is int and abs(times) > 1 and is_state(house, (room, number)))
        for wanted in ((room, number), (room, number * times)):
            self.assertTrue(wanted in found or self.can_be_met(house, state, wanted))
        self.assertIsNone(class_of(house, state))
        return "endless"

    def can_be_met(self, house, state, wanted):
        """Whether a search from wanted meets states that one from state meets."""
        ours, _ = class_here(house, state, 1000)
        theirs, _ = class_here(house, wanted, 1000)
        return bool(set(ours) & set(theirs))

    def test_examples(self):
        self.assertEqual(class_of(SINGLE, (0, 8)), [(0, 8), (0, 12), (0, 18), (0, 27)])
        self.assertEqual(self.judged(DOUBLING, (0, 1)), "endless")
        self.assertEqual(self.judged(CHAIN, (0, 2)), "endless")
        self.assertEqual(class_of(CHAIN, (0, 1)), [(0, 1)])
        self.assertIsNone(endless_pair(CHAIN, (0, 1)))

    def test_by_a_search(self):
        told = []
        for chance, house in houses_by_chance(42, 250, numbers=(1, 2, 3, 4, 6, 8)):
            told.append(self.judged(house, some_state(chance, house)))
        for chance, house in houses_by_chance(43, 150, numbers=(2, 3, 4, 6, 8, 9, 12), most_rooms=3):
            told.append(self.judged(house, some_state(chance, house)))
        self.assertGreater(told.count("endless"), 50)
        self.assertGreater(told.count("finite"), 150)

    def test_all_states_of_a_class_have_it(self):
        for chance, house in houses_by_chance(44, 60, numbers=(2, 3, 4, 6)):
            state = some_state(chance, house)
            if endless_pair(house, state) is None:
                found = class_of(house, state)
                for other in chance.sample(found, min(3, len(found))):
                    self.assertEqual(class_of(house, other), found)
                for room, number in found:
                    self.assertFalse([other for there, other in found
                                      if there == room and other % number == 0 and abs(other) > abs(number)])

    def test_five_thousand_states_and_more(self):
        # 2 ** n is moved to all 2 ** a * 3 ** b * 5 ** c with n factors: (n + 1) * (n + 2) / 2 states.
        self.assertEqual(len(class_of(FORK, (0, 2 ** 98))), 4950)
        with self.assertRaises(TooMany) as caught:
            class_of(FORK, (0, 2 ** 99))
        self.assertEqual(caught.exception.most, 5000)
        # Here n factors 2 give n + 1 choices, and so do those of 5 and 11: 50 * 10 * 10 and 25 * 10 * 20.
        house = House(1, ((0, 2, 0, 3), (0, 5, 0, 7), (0, 11, 0, 13), (0, 17, 0, 19)))
        self.assertEqual(len(class_of(house, (0, 2 ** 49 * 5 ** 9 * 11 ** 9))), 5000)
        self.assertEqual(len(class_of(house, (0, -2 ** 24 * 5 ** 9 * 11 ** 19))), 5000)
        self.assertEqual(len(class_of(house, (0, 2 ** 199))), 200)
        for number in (2 ** 49 * 5 ** 9 * 11 ** 9 * 17, 2 ** 50 * 5 ** 9 * 11 ** 9):
            with self.assertRaises(TooMany):
                class_of(house, (0, number))

    def test_numbers_below_0(self):
        self.assertEqual(class_of(SINGLE, (0, -8)), [(0, -27), (0, -18), (0, -12), (0, -8)])
        house = House(2, ((0, 2, 1, -3), (0, 1, 1, 1)))
        self.assertEqual(class_of(house, (0, 4)), [(0, -6), (0, 4), (0, 9), (1, -6), (1, 4), (1, 9)])
        self.assertEqual(class_of(House(1, ((0, 1, 0, -1),)), (0, 5)), [(0, -5), (0, 5)])
        self.assertEqual(self.judged(House(1, ((0, 1, 0, -2),)), (0, 7)), "endless")

    def test_a_class_that_growth_does_not_reach(self):
        # There is a growth, but too few factors of 11 to go over the last door; no search could see all these states.
        doors = tuple((0, 2, 0, prime) for prime in (3, 5, 7, 17, 19, 23)) + ((0, 11, 0, 13), (0, 121, 0, 242))
        house = House(1, doors)
        self.assertIsNotNone(growth_of(house))
        for number in (2 ** 150 * 11, -2 ** 150 * 13, 2 ** 150):
            self.assertIsNone(endless_pair(house, (0, number)))
            with self.assertRaises(TooMany):
                class_of(house, (0, number))
        for state in ((0, 2 ** 150 * 121), (0, -2 ** 150 * 169)):
            self.assertIsNone(class_of(house, state))
            room, number, times = endless_pair(house, state)
            self.assertTrue(room == 0 and abs(times) > 1 and number * state[1] > 0)

    def test_rooms_that_growth_is_in(self):
        # Each 11 becomes a 13 on the way to room 1, where two of them are needed.
        loops = tuple((2, 2, 2, prime) for prime in (3, 5, 7, 17, 19))
        house = House(3, ((0, 1, 1, 1),) + loops + ((2, 11, 1, 13), (1, 1, 2, 1), (1, 169, 1, 338)))
        self.assertIsNone(endless_pair(house, (2, 2 ** 100 * 11)))
        self.assertIsNone(endless_pair(house, (0, 2 ** 100 * 13)))
        with self.assertRaises(TooMany):
            class_of(house, (2, 2 ** 100 * 11))
        for state in ((2, 2 ** 100 * 121), (1, 2 ** 100 * 143), (0, 169)):
            self.assertIsNotNone(endless_pair(house, state))
            self.assertIsNone(class_of(house, state))

    def test_pulls_that_a_way_to_another_room_adds(self):
        # In room 1 there is a 5 that makes the last door passable, but behind three passes of other doors only.
        loops = tuple((2, 2, 2, prime) for prime in (3, 7, 11, 13, 17, 19, 23, 29))
        house = House(3, ((0, 1, 1, 1), (2, 1, 1, 5)) + loops + ((1, 135, 1, 270),))
        for state in ((2, 2 ** 60), (1, -5 * 2 ** 60), (0, 5 * 2 ** 60)):
            room, number, times = endless_pair(house, state)
            self.assertGreater(abs(times), 1)
            self.assertIsNone(class_of(house, state))
        for state in ((1, 2 ** 60), (0, 2 ** 60)):
            self.assertIsNone(endless_pair(house, state))

    def test_growth_that_only_halves_of_walks_would_reach(self):
        # No state has 2 and 3, but by half a walk over the first door one would.
        house = House(1, ((0, 4, 0, 9), (0, 6, 0, 30), (0, 7, 0, 11), (0, 7, 0, 13)))
        state = (0, 4 * 7 ** 15)
        self.assertIsNone(endless_pair(house, state))
        self.assertEqual(len(class_of(house, state)), 2 * 136)
        self.assertIsNone(endless_pair(house, (0, 4 * 7 ** 60)))
        self.assertEqual(len(class_of(house, (0, 4 * 7 ** 60))), 2 * 1891)
        with self.assertRaises(TooMany):
            class_of(house, (0, 9 * 7 ** 70))
        self.assertIsNone(class_of(house, (0, 36 * 7 ** 15)))

    def test_a_long_way_to_endlessness(self):
        # One factor goes up from prime to prime, and the last one becomes two of the first; so all products are met.
        primes = (2, 3, 5, 7, 11, 13, 17, 19, 23, 29, 31, 37, 41, 43, 47, 53, 59, 61)
        doors = tuple((0, one, 0, other) for one, other in zip(primes, primes[1:])) + ((0, 61, 0, 4), (0, 67, 0, 71))
        for number in (2, 2 ** 60, 3 ** 20 * 5 ** 30 * 61, 2 ** 100 * 73, -7 ** 40 * 67 ** 5):
            house = House(1, doors)
            room, found, times = endless_pair(house, (0, number))
            self.assertEqual(room, 0)
            self.assertGreater(abs(times), 1)
            for other in (found, found * times):
                self.assertEqual(self.without(primes, other), self.without(primes, number))
                self.assertGreater(abs(other), abs(self.without(primes, other)))
            self.assertIsNone(class_of(house, (0, number)))

    def without(self, primes, number):
        """The number without these primes, and with 67 in the place of each 71."""
        for prime in primes:
            number //= prime ** times_in(prime, number)
        return number // 71 ** times_in(71, number) * 67 ** times_in(71, number)

    def test_endless_ones_of_great_numbers(self):
        chance = random.Random(45)
        for _ in range(20):
            number = 2 * chance.choice((1, -1)) * chance.randrange(10 ** 55, 10 ** 58)
            room, found, times = endless_pair(CHAIN, (0, number))
            self.assertEqual((room, found * times % found), (0, 0))
            self.assertGreater(abs(times), 1)
            self.assertTrue(self.can_be_met(CHAIN, (0, number), (0, found)))
            self.assertTrue(self.can_be_met(CHAIN, (0, number), (0, found * times)))
            self.assertIsNone(class_of(CHAIN, (0, number)))

    def test_many_rooms(self):
        for state in ((0, 12), (1, 60), (2, -36), (3, 7)):
            self.judged(RING, state)
        self.assertEqual(ends(RING, (0, 0)), (0, 2, 1, 3))


if __name__ == "__main__":
    unittest.main()
