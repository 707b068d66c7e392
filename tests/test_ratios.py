"""[2] (b), [30], [31], [32] Ratios, lengths, signs, pulls carried along."""

import random
import unittest
from fractions import Fraction
from math import gcd

from pulledrooms.errors import BadNumber, BadWalk
from pulledrooms.houses import House
from pulledrooms.ratios import (
    are_lengths, are_signs, carried_along, kept_pulls, lengths_of, ratio_of, signs_of, stretching_walk, turning_walk,
)
from tests.helper import (
    ALONE, HUGE, NO_NUMBERS, ODD, PAIR, RING, SINGLE, TWINS, all_passes, ends, houses_by_chance, put_together, rooms_of,
    some_number, some_walk, turned_back, way_between,
)

ROUND = (0, (0, 0, 0), ((0, 0), (1, 1)))


def ratio_here(house, walk):
    ratio = Fraction(1)
    for step in walk[2]:
        _, leaving, _, arriving = ends(house, step)
        ratio = ratio * arriving / leaving
    return ratio


def is_bare_round(house, walk):
    """Whether the value is a bare walk that comes home, with at most sixty passes."""
    room, pulls, passes = walk
    here = room
    for step in passes:
        assert ends(house, step)[0] == here
        here = ends(house, step)[2]
    return here == room and pulls == (0,) * (len(passes) + 1) and len(passes) <= 60


def fit_lengths(house, lengths):
    return all(abs(first) * lengths[near] == abs(second) * lengths[far] for near, first, far, second in house.doors)


def fit_signs(house, signs):
    return all((first * signs[near] > 0) == (second * signs[far] > 0) for near, first, far, second in house.doors)


def fitting_house(chance, numbers=(1, 2, 3, 4, 6)):
    """A house for which lengths fit, and perhaps signs."""
    rooms = chance.randint(1, 6)
    lengths = [chance.choice(numbers) for _ in range(rooms)]
    signs = [chance.choice((1, -1)) for _ in range(rooms)]
    doors = []
    for at in range(rooms - 1 + chance.randint(0, 4)):
        near = chance.randrange(min(at + 1, rooms))
        far = at + 1 if at + 1 < rooms else chance.randrange(rooms)
        common = lengths[near] * lengths[far] // gcd(lengths[near], lengths[far]) * chance.choice((1, 2, 5))
        turn = chance.choice((1, 1, 1, 1, -1))
        doors.append((near, common // lengths[near] * signs[near] * turn, far, common // lengths[far] * signs[far]))
    return House(rooms, tuple(doors))


def changed_parts(found):
    """Tuples like found, with one part changed, left out or put on, and the list of its parts."""
    for at in range(len(found)):
        for part in (found[at] + 1, -found[at], 0, True, False, None, str(found[at]), (found[at],)):
            yield found[:at] + (part,) + found[at + 1:]
        yield found[:at] + found[at + 1:]
    yield found + (found[0],)
    yield list(found)
    yield {at: part for at, part in enumerate(found)}


def are_parts(found):
    return isinstance(found, tuple) and all(type(part) is int for part in found)


class Ratio(unittest.TestCase):
    def test_examples(self):
        self.assertEqual(ratio_of(SINGLE, (0, (0, 0), ((0, 0),))), (3, 2))
        self.assertEqual(ratio_of(TWINS, ROUND), (-1, 1))

    def test_values(self):
        self.assertEqual(ratio_of(SINGLE, (0, (5, -7), ((0, 0),))), (3, 2))
        self.assertEqual(ratio_of(SINGLE, (0, (0, 0), ((0, 1),))), (2, 3))
        self.assertEqual(ratio_of(SINGLE, (0, (HUGE,), ())), (1, 1))
        self.assertEqual(ratio_of(SINGLE, (0, (0, 1, 0), ((0, 0), (0, 1)))), (1, 1))
        self.assertEqual(ratio_of(TWINS, (0, (0, 0), ((1, 0),))), (-3, 2))
        self.assertEqual(ratio_of(TWINS, (1, (0, 0), ((1, 1),))), (-2, 3))
        self.assertEqual(ratio_of(House(1, ((0, -2, 0, -4),)), (0, (0, 0), ((0, 0),))), (2, 1))

    def test_many(self):
        for chance, house in houses_by_chance(70, 150, numbers=(1, 2, 3, 4, 6, 999)):
            walk = some_walk(chance, house, chance.randint(0, 60), turns=0.2)
            ratio = ratio_here(house, walk)
            self.assertEqual(ratio_of(house, walk), (ratio.numerator, ratio.denominator))


class Lengths(unittest.TestCase):
    def test_examples(self):
        self.assertEqual(lengths_of(TWINS), (3, 2))
        self.assertIsNone(stretching_walk(TWINS))
        self.assertIsNone(lengths_of(SINGLE))
        self.assertEqual(ratio_of(SINGLE, stretching_walk(SINGLE)) in ((3, 2), (2, 3)), True)
        self.assertEqual(lengths_of(ALONE), (1,))
        self.assertIsNone(stretching_walk(ALONE))

    def test_a_stretch_below_nought(self):
        house = House(1, ((0, 2, 0, -2), (0, 5, 0, 5)))
        self.assertEqual(lengths_of(house), (1,))
        self.assertIsNone(stretching_walk(house))
        house = House(1, ((0, 2, 0, -2), (0, -5, 0, 10)))
        self.assertIsNone(lengths_of(house))
        self.assertEqual(abs(ratio_here(house, stretching_walk(house))) in (Fraction(2), Fraction(1, 2)), True)

    def test_just_one_is_none(self):
        fit = stretch = 0
        for chance, house in houses_by_chance(71, 200) + houses_by_chance(72, 60, numbers=(1, 500, 998, 999)):
            for tried in (house, fitting_house(chance)):
                lengths, walk = lengths_of(tried), stretching_walk(tried)
                self.assertEqual([lengths, walk].count(None), 1)
                if lengths is None:
                    stretch += 1
                    self.assertTrue(is_bare_round(tried, walk))
                    self.assertNotEqual(abs(ratio_here(tried, walk)), 1)
                else:
                    fit += 1
                    self.assertTrue(are_parts(lengths) and len(lengths) == tried.rooms and min(lengths) > 0)
                    self.assertTrue(fit_lengths(tried, lengths))
                    self.assertEqual(gcd(*lengths), 1)
        self.assertGreater(min(fit, stretch), 100)

    def test_are_lengths(self):
        chance = random.Random(73)
        for _ in range(80):
            house = fitting_house(chance)
            lengths = lengths_of(house)
            for times in (1, 2, HUGE):
                self.assertIs(are_lengths(house, tuple(times * length for length in lengths)), True)
            for changed in changed_parts(lengths):
                right = are_parts(changed) and len(changed) == house.rooms and min(changed) > 0
                self.assertIs(are_lengths(house, changed), right and fit_lengths(house, changed))

    def test_are_lengths_of_other_values(self):
        for house in (ALONE, SINGLE, TWINS, PAIR, RING):
            for thing in ODD + ((), (0,), (-1,), (True,), [1], (3, 2, 1), (-3, -2), (2, 3), (6, 2), [3, 2], (3, "2")):
                with self.subTest(doors=house.doors, thing=thing):
                    self.assertIs(are_lengths(house, thing), False)
        self.assertIs(are_lengths(ALONE, (1,)), True)
        self.assertIs(are_lengths(TWINS, (6, 4)), True)

    def test_twelve_rooms(self):
        house = House(12, tuple((room, 999, room + 1, 998) for room in range(11)))
        self.assertTrue(fit_lengths(house, lengths_of(house)))
        self.assertEqual(lengths_of(house)[11], 999 ** 11)
        house = House(12, house.doors + ((11, 1, 0, 1),))
        self.assertIsNone(lengths_of(house))
        self.assertTrue(is_bare_round(house, stretching_walk(house)))


class Signs(unittest.TestCase):
    def test_examples(self):
        self.assertIsNone(signs_of(TWINS))
        self.assertEqual(ratio_here(TWINS, turning_walk(TWINS)), -1)
        self.assertEqual(signs_of(SINGLE), (1,))
        self.assertIsNone(turning_walk(SINGLE))
        self.assertEqual(signs_of(ALONE), (1,))
        self.assertIsNone(turning_walk(ALONE))
        self.assertEqual(signs_of(House(3, ((1, 5, 0, -2), (2, -1, 1, -7)))), (1, -1, -1))

    def test_just_one_is_none(self):
        fit = turn = 0
        for chance, house in houses_by_chance(74, 200, most_more=2):
            for tried in (house, fitting_house(chance)):
                signs, walk = signs_of(tried), turning_walk(tried)
                self.assertEqual([signs, walk].count(None), 1)
                if signs is None:
                    turn += 1
                    self.assertTrue(is_bare_round(tried, walk))
                    self.assertLess(ratio_here(tried, walk), 0)
                else:
                    fit += 1
                    self.assertTrue(are_parts(signs) and len(signs) == tried.rooms and signs[0] == 1)
                    self.assertLessEqual(set(signs), {1, -1})
                    self.assertTrue(fit_signs(tried, signs))
        self.assertGreater(min(fit, turn), 70)

    def test_are_signs(self):
        for _, house in houses_by_chance(75, 150, most_more=1):
            signs = signs_of(house)
            if signs is None:
                continue
            self.assertIs(are_signs(house, signs), True)
            self.assertIs(are_signs(house, tuple(-sign for sign in signs)), True)
            for changed in changed_parts(signs):
                right = are_parts(changed) and len(changed) == house.rooms and set(changed) <= {1, -1}
                self.assertIs(are_signs(house, changed), right and fit_signs(house, changed))

    def test_are_signs_of_other_values(self):
        for thing in ODD + ((2,), (-2,), (0,), (True,), [1], (1, 1), ("1",), (3,)):
            with self.subTest(thing=thing):
                self.assertIs(are_signs(SINGLE, thing), False)
        for thing in ((1, 1), (1, -1), (-1, 1), (-1, -1)):
            self.assertIs(are_signs(TWINS, thing), False)
        self.assertIs(are_signs(ALONE, (-1,)), True)
        house = House(2, ((0, 2, 1, -3),))
        for thing in ((2, -3), (3, -2), (1, -2), (2, -1)):
            self.assertIs(are_signs(house, thing), False)


class CarriedAlong(unittest.TestCase):
    def test_examples(self):
        self.assertEqual(carried_along(TWINS, 4, ROUND), -4)
        self.assertIsNone(carried_along(TWINS, 2, ROUND))

    def test_values(self):
        self.assertEqual(carried_along(TWINS, 0, ROUND), 0)
        self.assertEqual(carried_along(TWINS, -8, ROUND), 8)
        self.assertEqual(carried_along(TWINS, 7, (1, (0,), ())), 7)
        self.assertEqual(carried_along(SINGLE, 10 ** 59, (0, (0, 0), ((0, 0),))), 15 * 10 ** 58)
        self.assertEqual(carried_along(SINGLE, -10 ** 59, (0, (0, 0), ((0, 0),))), -15 * 10 ** 58)
        self.assertIsNone(carried_along(SINGLE, HUGE, (0, (0, 0), ((0, 0),))))
        self.assertIsNone(carried_along(SINGLE, 4, (0, (0, 0, 0, 0), ((0, 0), (0, 0), (0, 0)))))
        self.assertEqual(carried_along(SINGLE, 0, (0, (0,) * 61, ((0, 0),) * 60)), 0)

    def test_many(self):
        carried = 0
        for chance, house in houses_by_chance(76, 200):
            walk = some_walk(chance, house, chance.randint(0, 6), pulls=(0, 0))
            number = some_number(chance, (0, 1, 6, 36, 144, 5 * 12 ** 20))
            here = Fraction(number)
            for step in walk[2]:
                _, leaving, _, arriving = ends(house, step)
                here = here / leaving * arriving if here is not None and (here / leaving).denominator == 1 else None
                if here is None:
                    break
            self.assertEqual(carried_along(house, number, walk), here)
            carried += here is not None
        self.assertGreater(carried, 50)

    def test_wrong_values(self):
        for number in NO_NUMBERS:
            with self.subTest(number=number), self.assertRaises(BadNumber):
                carried_along(TWINS, number, None)
        for walk in ODD + ((0, (1, 0, 0), ROUND[2]), (0, (0, -1, 0), ROUND[2]), (0, (0, 0, 1), ROUND[2]), (0, (1,), ()),
                           (0, (0, False, 0), ROUND[2]), (0, [0, 0, 0], ROUND[2]), (0, (0, 0), ROUND[2])):
            with self.subTest(walk=walk), self.assertRaises(BadWalk):
                carried_along(TWINS, 4, walk)


def goes_along_all(house, room, number):
    """Whether so many pulls can be carried along every bare walk from room, in a house that lengths fit."""
    states, waiting = {(room, number)}, [(room, number)]
    while waiting:
        here, pulls = waiting.pop()
        for step in all_passes(house):
            leads, leaving, there, arriving = ends(house, step)
            if leads != here:
                continue
            if pulls % leaving != 0:
                return False
            state = (there, pulls // leaving * arriving)
            if state not in states:
                states.add(state)
                waiting.append(state)
    return True


class KeptPulls(unittest.TestCase):
    def test_examples(self):
        self.assertEqual(kept_pulls(TWINS), (4, 6))
        self.assertIsNone(kept_pulls(SINGLE))
        self.assertEqual(kept_pulls(ALONE), (1,))

    def test_values(self):
        self.assertEqual(kept_pulls(House(1, ((0, -4, 0, 4), (0, 6, 0, -6)))), (12,))
        self.assertEqual(kept_pulls(House(2, ((0, -1, 1, 1),))), (1, 1))
        self.assertEqual(kept_pulls(House(2, ((0, 2, 1, 4),))), (2, 4))

    def test_the_least_number_for_every_walk(self):
        chance = random.Random(77)
        for _ in range(60):
            house = fitting_house(chance, numbers=(1, 2, 3))
            kept = kept_pulls(house)
            self.assertTrue(are_parts(kept) and len(kept) == house.rooms)
            for room in range(house.rooms):
                least = next(number for number in range(1, 10 ** 6) if goes_along_all(house, room, number))
                self.assertEqual(kept[room], least)
                self.assertTrue(goes_along_all(house, room, -7 * least))
                walk = some_walk(chance, house, 30, room=room, pulls=(0, 0))
                self.assertIsNotNone(carried_along(house, least, walk))

    def test_where_a_walk_stretches(self):
        stretched = 0
        for _, house in houses_by_chance(78, 100):
            walk = stretching_walk(house)
            self.assertIs(kept_pulls(house) is None, walk is not None)
            if walk is None:
                continue
            stretched += 1
            for room in range(house.rooms):
                way = way_between(house, room, walk[0])
                lead = (room, (0,) * (len(way) + 1), way)
                for number in (1, -6, 12 ** 9):
                    self.assertTrue(self.is_stopped(house, number, lead, walk))
        self.assertGreater(stretched, 30)

    def is_stopped(self, house, number, lead, walk):
        """Whether the number is stopped by walk, again and again, forward or back, behind the lead."""
        for way in (walk, turned_back(house, walk)):
            here = carried_along(house, number, lead)
            for _ in range(200):
                if here is None:
                    return True
                here = carried_along(house, here, way)
        return False

    def test_nought_goes_along(self):
        for house in (SINGLE, PAIR, RING):
            walk = stretching_walk(house)
            self.assertEqual(carried_along(house, 0, put_together(walk, walk)), 0)
            self.assertEqual(rooms_of(house, walk)[-1], walk[0])


if __name__ == "__main__":
    unittest.main()
