"""[33] Weights and growths."""

import random
import unittest
from fractions import Fraction

from pulledrooms.errors import TooMany
from pulledrooms.houses import House
from pulledrooms.ratios import lengths_of
from pulledrooms.weights import are_weights, growth_of, is_growth, weights_of
from tests.helper import (ALONE, HUGE, ODD, PAIR, RING, SINGLE, TWINS, ends, houses_by_chance, primes_here, rooms_of,
                          some_house)

GROWING = House(1, ((0, 2, 0, 3), (0, 1, 0, 6)))
CHAIN = House(1, ((0, 2, 0, 3), (0, 3, 0, 8)))
TWELVE = House(1, ((0, 210, 0, 143), (0, 323, 0, 667), (0, 31, 0, 37)))
THIRTEEN = House(1, TWELVE.doors + ((0, -37, 0, 41),))
BY_HAND = {2: 1, 3: 1, 5: 1, 7: 1, 11: 2, 13: 2, 17: 1, 19: 1, 23: 1, 29: 1, 31: 1, 37: 1}


def bare(*passes):
    return (0, (0,) * (len(passes) + 1), passes)


def weight_here(weights, number):
    total = 0
    for prime, weight in weights.items():
        while number % prime == 0:
            number, total = number // prime, total + weight
    return total


def fit_weights(house, found):
    weights, heights = found
    return all(heights[near] + weight_here(weights, first) == heights[far] + weight_here(weights, second)
               for near, first, far, second in house.doors)


def product_of(house, growth):
    """The product of the ratios of the walks, each to the power of its times."""
    product = Fraction(1)
    for (_, _, passes), times in growth:
        for step in passes:
            _, leaving, _, arriving = ends(house, step)
            product *= Fraction(arriving, leaving) ** times
    return product


class Both(unittest.TestCase):
    def judged(self, house):
        """Judges what weights_of and growth_of tell, and tells which one told something."""
        weights, growth = weights_of(house), growth_of(house)
        self.assertEqual([weights, growth].count(None), 1)
        if growth is None:
            self.assertIsInstance(weights, tuple)
            self.assertEqual(list(weights[0]), primes_here(house))
            self.assertTrue(all(type(weight) is int and weight > 0 for weight in weights[0].values()))
            self.assertEqual([type(height) for height in weights[1]], [int] * house.rooms)
            self.assertIsInstance(weights[1], tuple)
            self.assertTrue(fit_weights(house, weights))
            self.assertIs(are_weights(house, weights), True)
            return "weights"
        self.assertIsInstance(growth, list)
        for (room, pulls, passes), times in growth:
            self.assertEqual((room, set(pulls), len(pulls)), (0, {0}, len(passes) + 1))
            rooms = rooms_of(house, (room, pulls, passes))
            self.assertEqual([ends(house, step)[0] for step in passes] + [0], rooms)
            self.assertTrue(type(times) is int and times != 0 and abs(times) <= HUGE and len(passes) <= 60)
        self.assertIs(is_growth(house, growth), True)
        if max(abs(times) for _, times in growth) < 2000:
            product = product_of(house, growth)
            self.assertTrue(product.denominator == 1 and abs(product) > 1)
        return "growth"

    def test_examples(self):
        self.assertEqual(self.judged(SINGLE), "weights")
        self.assertEqual(weights_of(SINGLE), ({2: 1, 3: 1}, (0,)))
        self.assertEqual(self.judged(GROWING), "growth")
        self.assertEqual(self.judged(CHAIN), "growth")

    def test_without_doors_and_without_primes(self):
        self.assertEqual(self.judged(ALONE), "weights")
        self.assertEqual(weights_of(ALONE)[0], {})
        house = House(3, ((0, 1, 1, -1), (2, -1, 1, -1), (0, 1, 2, -1)))
        self.assertEqual(self.judged(house), "weights")
        heights = weights_of(house)[1]
        self.assertEqual(heights, (heights[0],) * 3)

    def test_just_one_is_none(self):
        told = []
        kinds = [(1, 2, 3, 4, 6), (2, 3, 5, 6, 10, 15), (1, 2, 4, 8, 512), (30, 77, 2, 999, 998, 997), (1, 7)]
        for at, numbers in enumerate(kinds):
            for chance, house in houses_by_chance(80 + at, 60, numbers=numbers):
                told.append(self.judged(house))
                small = some_house(chance, numbers=numbers, most_rooms=3, most_more=1)
                told.append(self.judged(small))
        self.assertGreater(min(told.count("weights"), told.count("growth")), 100)

    def test_lengths_are_a_special_case(self):
        for _, house in houses_by_chance(86, 150, most_more=1):
            if lengths_of(house) is not None:
                self.assertEqual(self.judged(house), "weights")

    def test_more_doors_than_needed(self):
        self.assertEqual(self.judged(House(1, ((0, 2, 0, 3),) * 20)), "weights")
        self.assertEqual(self.judged(House(1, ((0, 2, 0, 3), (0, 4, 0, 9), (0, 9, 0, 4), (0, 5, 0, 5)))), "weights")
        self.assertEqual(self.judged(House(1, ((0, 2, 0, 2), (0, 2, 0, 3), (0, 4, 0, 9), (0, 8, 0, 9)))), "growth")
        self.assertEqual(self.judged(House(1, ((0, 2, 0, 2), (0, 3, 0, 6), (0, 5, 0, 5)))), "growth")

    def test_unlike_weights(self):
        house = House(1, ((0, 4, 0, 27), (0, 25, 0, 3)))
        self.assertEqual(self.judged(house), "weights")
        self.assertEqual(self.judged(House(2, ((0, 4, 1, 27), (0, 25, 1, 3), (1, 2, 0, 49)))), "weights")
        self.assertEqual(self.judged(House(1, ((0, 512, 0, 729), (0, 243, 0, 625), (0, 125, 0, 343)))), "weights")
        self.assertEqual(self.judged(House(1, ((0, 512, 0, 729), (0, 243, 0, 625), (0, 125, 0, 32)))), "growth")

    def test_many_doors_and_many_primes(self):
        chance = random.Random(87)
        numbers = (210, 143, 323, 667, 31, 37, 2, 13 * 17, 29 * 31, 7 * 11, 512, 729, 625, 343)
        for _ in range(25):
            rooms = chance.randint(1, 12)
            joins = [(chance.randrange(room), room) for room in range(1, rooms)]
            joins += [(chance.randrange(rooms), chance.randrange(rooms)) for _ in range(20 - len(joins))]
            for many in (rooms - 1, rooms + 2, 20):
                doors = [(near, chance.choice(numbers), far, -chance.choice(numbers)) for near, far in joins[:many]]
                self.judged(House(rooms, tuple(doors)))

    def test_twelve_primes(self):
        self.assertEqual(len(primes_here(TWELVE)), 12)
        self.assertEqual(self.judged(TWELVE), "weights")
        self.assertEqual(self.judged(House(1, TWELVE.doors + ((0, 1, 0, 37),))), "growth")

    def test_thirteen_primes(self):
        self.assertEqual(len(primes_here(THIRTEEN)), 13)
        for asked in (weights_of, growth_of):
            for house in (THIRTEEN, House(1, THIRTEEN.doors + ((0, 1, 0, 43),))):
                with self.assertRaises(TooMany) as caught:
                    asked(house)
                self.assertEqual(caught.exception.most, 12)

    def test_thirteen_primes_can_be_judged(self):
        weights = {**BY_HAND, 41: 1}
        self.assertTrue(fit_weights(THIRTEEN, (weights, (5,))))
        self.assertIs(are_weights(THIRTEEN, (weights, (5,))), True)
        self.assertIs(are_weights(THIRTEEN, (BY_HAND, (5,))), False)
        house = House(1, THIRTEEN.doors + ((0, 1, 0, 43),))
        self.assertIs(is_growth(house, [(bare((4, 0)), 1)]), True)
        self.assertIs(is_growth(house, [(bare((3, 0)), 1)]), False)


class AreWeights(unittest.TestCase):
    def test_right_ones(self):
        for times in (1, 7, HUGE):
            self.assertIs(are_weights(SINGLE, ({2: times, 3: times}, (-times,))), True)
            self.assertIs(are_weights(SINGLE, ({3: times, 2: times}, (0,))), True)
        self.assertIs(are_weights(ALONE, ({}, (0,))), True)
        self.assertIs(are_weights(ALONE, ({}, (-HUGE,))), True)
        self.assertIs(are_weights(TWELVE, (BY_HAND, (0,))), True)
        self.assertIs(are_weights(House(2, ((0, 4, 1, -27),)), ({2: 1, 3: 5}, (13, 0))), True)
        self.assertIs(are_weights(House(2, ((0, 4, 1, -27),)), ({2: 1, 3: 5}, (0, -13))), True)

    def test_near_misses(self):
        house = House(2, ((0, 2, 1, 3), (1, 9, 0, 6)))
        right = ({2: 2, 3: 5}, (7, 4))
        self.assertIs(are_weights(house, right), True)
        weights, heights = right
        for thing in (
            ({2: 3, 3: 5}, heights), ({2: 2, 3: 4}, heights), (weights, (8, 4)), (weights, (7, 3)), (weights, (4, 7)),
            ({2: 2}, heights), ({3: 5}, heights), ({2: 2, 3: 5, 5: 1}, heights), ({2: 2, 3: 5, True: 1}, heights),
            ({2: 2, 3: 5, 1: 1}, heights), ({2: 2, True: 5}, heights), ({2: 2, "3": 5}, heights), ({}, heights),
            ({2: 2, 3: 5, None: 1}, heights), ({2: 2, 3: 5, (2,): 1}, heights), ({2: 2, 6: 5}, heights),
            (weights, [7, 4]), (weights, (7,)), (weights, (7, 4, 0)), (weights, ()), (weights, {0: 7, 1: 4}),
            [weights, heights], (weights,), (weights, heights, 0), (heights, weights), ([(2, 2), (3, 5)], heights),
            (((2, 2), (3, 5)), heights), ([2, 3], heights), ({2: True, 3: 5}, heights), ({2: 2, 3: "5"}, heights),
            ({2: None, 3: 5}, heights), ({2: [2], 3: 5}, heights), (weights, (7, None)), (weights, ("7", 4)), weights,
            ({2: -2, 3: -5}, (-7, -4)), ({2: 0, 3: 0}, (0, 0)), (None, heights), (weights, None),
        ):
            with self.subTest(thing=thing):
                self.assertIs(are_weights(house, thing), False)

    def test_true_is_not_one(self):
        self.assertIs(are_weights(SINGLE, ({2: 1, 3: 1}, (0,))), True)
        for thing in (({2: True, 3: True}, (0,)), ({2: True, 3: 1}, (0,)), ({2: 1, 3: 1}, (False,)),
                      ({2: 1, 3: 1}, (True,))):
            self.assertIs(are_weights(SINGLE, thing), False)
        self.assertIs(are_weights(ALONE, ({True: 1}, (0,))), False)
        self.assertIs(are_weights(ALONE, ({1: 1}, (0,))), False)

    def test_weights_below_one(self):
        house = House(1, ((0, 2, 0, 2),))
        for weight, right in ((1, True), (0, False), (-1, False), (HUGE, True)):
            self.assertIs(are_weights(house, ({2: weight}, (0,))), right)

    def test_other_values(self):
        for house in (ALONE, SINGLE, TWINS):
            for thing in ODD:
                self.assertIs(are_weights(house, thing), False)

    def test_where_there_are_none(self):
        self.assertIs(are_weights(GROWING, ({2: 1, 3: 1}, (0,))), False)

    def test_the_dict_may_be_changed_later(self):
        weights = weights_of(SINGLE)
        weights[0][2] = 5
        self.assertEqual(weights_of(SINGLE), ({2: 1, 3: 1}, (0,)))
        self.assertIs(are_weights(SINGLE, weights), False)


class IsGrowth(unittest.TestCase):
    def test_examples(self):
        self.assertIs(is_growth(GROWING, [(bare((1, 0)), 1)]), True)
        self.assertIs(is_growth(CHAIN, [(bare((0, 0)), 1), (bare((1, 0)), 1)]), True)

    def test_right_ones(self):
        for thing in (((bare((1, 0)), 1),), [(bare((1, 1)), -1)], [(bare((1, 0)), HUGE)], [(bare((1, 1)), -HUGE)],
                      [(bare((1, 0), (1, 0)), 3)], [(bare((1, 0)), 1)] * 3, [(bare(), 5), (bare((1, 0)), 1)],
                      [(bare((1, 0)), 5), (bare((1, 0)), -4)], [(bare((1, 0)), 1), (bare((0, 0)), 1)],
                      [(bare((1, 0)), 1), (bare((0, 1)), 1)], [(bare((1, 0)), HUGE), (bare((0, 0)), -HUGE)]):
            with self.subTest(thing=thing):
                self.assertIs(is_growth(GROWING, thing), True)
        self.assertIs(is_growth(House(1, ((0, 1, 0, -2),)), [(bare((0, 0)), 1)]), True)

    def test_near_misses(self):
        walk = bare((1, 0))
        for thing in (
            [], (), [(walk, 0)], [(walk, -1)], [(walk, True)], [(walk, None)], [(walk, "1")], [[walk, 1]], (walk, 1),
            [(walk,)], [(walk, 1, 1)], [walk], {walk: 1}, [(walk, 1), None], [(walk, 1), (walk, 0)], {(walk, 1): 0},
            [(walk, 1), (walk, -1)], [(walk, 1), (walk, -2)], [(bare(), 1)], [(bare((0, 0)), 1)], [(bare((0, 1)), 1)],
            [(bare((1, 0), (1, 1)), 1)], [((0, (1, 0), ((1, 0),)), 1)], [((0, (0, 1), ((1, 0),)), 1)],
            [((0, (0,), ((1, 0),)), 1)], [((0, [0, 0], ((1, 0),)), 1)], [((False, (0, 0), ((1, 0),)), 1)],
            [((0, (0, False), ((1, 0),)), 1)], [((0, (0, 0), ((True, 0),)), 1)], [((0, (0, 0), [(1, 0)]), 1)],
            [(walk, 1), (bare((0, 0)), 2)], [(walk, 1), (bare((0, 1)), 2)], [(walk, HUGE), (bare((0, 0)), HUGE + 1)],
        ):
            with self.subTest(thing=thing):
                self.assertIs(is_growth(GROWING, thing), False)

    def test_walks_begin_and_end_in_room_nought(self):
        house = House(2, ((0, 1, 1, 6), (0, 1, 1, 2), (1, 1, 1, 5)))
        self.assertIs(is_growth(house, [(bare((0, 0), (1, 1)), 1)]), True)
        self.assertIs(is_growth(house, [((1, (0, 0, 0), ((1, 1), (0, 0))), 1)]), False)
        self.assertIs(is_growth(house, [((1, (0, 0), ((2, 0),)), 1)]), False)
        self.assertIs(is_growth(house, [(bare((0, 0)), 1)]), False)
        self.assertIs(is_growth(house, [(bare((0, 0), (2, 0), (0, 1)), 1)]), True)

    def test_a_part_changed(self):
        chance = random.Random(88)
        for _, house in houses_by_chance(89, 80):
            growth = growth_of(house)
            if growth is None or max(abs(times) for _, times in growth) > 500:
                continue
            self.assertIs(is_growth(house, tuple(growth)), True)
            at = chance.randrange(len(growth))
            for times in (growth[at][1] + 1, growth[at][1] - 1, -growth[at][1], 2 * growth[at][1]):
                changed = growth[:at] + [(growth[at][0], times)] + growth[at + 1:]
                product = product_of(house, changed)
                right = times != 0 and product.denominator == 1 and abs(product) > 1
                self.assertIs(is_growth(house, changed), right)

    def test_other_values(self):
        for house in (ALONE, SINGLE, PAIR, RING):
            for thing in ODD:
                self.assertIs(is_growth(house, thing), False)

    def test_where_there_are_none(self):
        self.assertIs(is_growth(ALONE, [(bare(), 1)]), False)
        for times in (1, -1, HUGE):
            for step in ((0, 0), (0, 1)):
                self.assertIs(is_growth(SINGLE, [(bare(step), times)]), False)


if __name__ == "__main__":
    unittest.main()
