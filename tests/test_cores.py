"""[23] Cores: walks that come home, begun later and led along other walks."""

import random
import unittest

from pulledrooms.cores import core_of, is_core, steps_of, turned_core
from pulledrooms.errors import BadMany, BadWalk, NotHome
from pulledrooms.forms import are_one, is_plain, plain_form
from pulledrooms.houses import House
from tests.helper import (
    ALONE, HUGE, NO_NUMBERS, ODD, PAIR, RING, SINGLE, ends, houses_by_chance, put_together, rooms_of, some_round,
    some_walk, spots, turned_back,
)

THERE, HERE = (0, 0), (0, 1)
AWAY = (0, (0, 0), ((0, 0),))


def is_core_here(house, walk):
    """Whether the walk, which comes home, is a core, as the document tells it."""
    _, pulls, passes = walk
    plain = all(0 <= here < abs(ends(house, step)[1]) for here, step in zip(pulls, passes)) and not spots(house, walk)
    if not plain or not passes:
        return plain
    door, side = passes[-1]
    meets = (pulls[-1] + pulls[0]) % ends(house, passes[-1])[3] == 0
    return not (passes[0] == (door, 1 - side) and meets)


def steps_here(house, walk):
    """The steps of the walk by the plain forms of it and of the walk done twice."""
    once, twice = plain_form(house, walk), plain_form(house, put_together(walk, walk))
    return max(0, len(twice[2]) - len(once[2]))


def some_home_walk(chance, house):
    """A walk that comes home, often one that is led along another one."""
    walk = some_round(chance, house, chance.randint(0, 5))
    lead = some_walk(chance, house, chance.randint(0, 4))
    if rooms_of(house, lead)[-1] == walk[0] and chance.random() < 0.7:
        walk = put_together(lead, walk, turned_back(house, lead))
    return walk


class Core(unittest.TestCase):
    def test_example(self):
        self.assertEqual(core_of(SINGLE, (0, (1, 0, 0), (THERE, HERE))), ((0, (0,), ()), (0, (1,), ())))
        self.assertEqual(steps_of(SINGLE, (0, (1, 0, 0), (THERE, HERE))), 0)
        lead, core = core_of(SINGLE, (0, (0, 1, 0), (THERE, HERE)))
        self.assertEqual((lead, core), ((0, (0, 0), (THERE,)), (0, (1,), ())))

    def judged(self, house, walk):
        found = core_of(house, walk)
        self.assertIsInstance(found, tuple)
        lead, core = found
        self.assertTrue(is_core_here(house, core))
        self.assertTrue(is_core(house, core))
        self.assertEqual(lead[0], walk[0])
        self.assertEqual(rooms_of(house, lead)[-1], core[0])
        self.assertEqual(rooms_of(house, core)[-1], core[0])
        self.assertTrue(are_one(house, put_together(lead, core, turned_back(house, lead)), walk))
        self.assertEqual(len(core[2]), steps_of(house, walk))
        self.assertEqual(steps_of(house, walk), steps_here(house, walk))
        return core

    def test_many(self):
        keep = go = 0
        for chance, house in houses_by_chance(60, 250):
            core = self.judged(house, some_home_walk(chance, house))
            keep += not core[2]
            go += bool(core[2])
        self.assertGreater(keep, 50)
        self.assertGreater(go, 50)

    def test_values(self):
        for walk, steps in (
            ((0, (5,), ()), 0), ((0, (0, 0), (THERE,)), 1), ((0, (7, 8), (HERE,)), 1),
            ((0, (1, 2, 3), (THERE, THERE)), 2),
            ((0, (0, 0, 0), (THERE, HERE)), 0), ((0, (1, 1, 0), (THERE, HERE)), 2), ((0, (1, 1, 1), (THERE, HERE)), 0),
            ((0, (1, 1, -1), (THERE, HERE)), 0), ((0, (0, 1, 1), (THERE, HERE)), 2),
            ((0, (0, 1, 1, 1, 0), (THERE, THERE, HERE, HERE)), 0),
            ((0, (0, 1, 1, 2, 0), (THERE, THERE, HERE, HERE)), 2),
        ):
            with self.subTest(walk=walk):
                self.judged(SINGLE, walk)
                self.assertEqual(steps_of(SINGLE, walk), steps)

    def test_a_lead_with_pulls(self):
        lead, core = core_of(SINGLE, (0, (1, 1, 3), (THERE, HERE)))
        self.assertEqual(len(lead[2]), 1)
        self.assertEqual(core, (0, (1 + 6,), ()))
        self.assertEqual(core_of(PAIR, (1, (3,), ())), ((1, (0,), ()), (1, (3,), ())))

    def test_sixty_passes(self):
        chance = random.Random(61)
        for house in (SINGLE, RING):
            walk = some_walk(chance, house, 29, pulls=(-HUGE, HUGE), turns=0)
            room = rooms_of(house, walk)[-1]
            self.judged(house, put_together(walk, (room, (HUGE,), ()), turned_back(house, walk)))
            self.judged(house, some_round(chance, house, 55, pulls=(-HUGE, HUGE), turns=0.1))

    def test_of_powers_and_of_walks_led_along_others(self):
        for chance, house in houses_by_chance(62, 60):
            walk = some_home_walk(chance, house)
            steps = steps_of(house, walk)
            self.assertEqual(steps_of(house, turned_back(house, walk)), steps)
            for times in (2, 3, 5):
                self.assertEqual(steps_of(house, put_together(*[walk] * times)), times * steps)
            for many in range(len(walk[2]) + 1):
                self.assertEqual(steps_of(house, turned_core(house, walk, many)), steps)


class IsCore(unittest.TestCase):
    def test_values(self):
        for walk in ((0, (-9,), ()), (0, (0, 0), (THERE,)), (0, (1, -7), (THERE,)), (0, (0, 1, 1), (THERE, HERE)),
                     (0, (1, 2, 2), (THERE, HERE)), (0, (0, 0, 0), (HERE, HERE))):
            self.assertIs(is_core(SINGLE, walk), True)
        for walk in ((0, (2, 0), (THERE,)), (0, (0, 1, 0), (THERE, HERE)), (0, (1, 2, 1), (THERE, HERE)),
                     (0, (1, 2, -5), (THERE, HERE)), (0, (0, 1, 2 * HUGE), (THERE, HERE)),
                     (0, (0, 3, 1), (THERE, HERE)), (0, (True, 0), (THERE,)), [0, (1,), ()], (0, [1], ()),
                     (False, (1,), ())):
            self.assertIs(is_core(SINGLE, walk), False)

    def test_walks_that_go_elsewhere(self):
        self.assertTrue(is_plain(PAIR, AWAY))
        self.assertIs(is_core(PAIR, AWAY), False)

    def test_the_arriving_number_of_the_last_pass_counts(self):
        walk = (1, (2, 1, 0), ((1, 0), (0, 1)))
        house = House(2, ((0, 2, 1, 3), (0, 5, 1, 7)))
        self.assertIs(is_core(house, (0, (1, 0, 4), ((1, 0), (0, 1)))), True)
        self.assertIs(is_core(house, (0, (1, 1, 4), ((1, 0), (1, 1)))), False)
        self.assertIs(is_core(house, (0, (1, 1, 6), ((1, 0), (1, 1)))), True)
        self.assertIs(is_core(house, (1, (1, 1, 6), ((1, 1), (1, 0)))), False)
        self.assertIs(is_core(house, (1, (1, 1, 4), ((1, 1), (1, 0)))), True)
        self.assertIs(is_core(house, walk), False)

    def test_many(self):
        for chance, house in houses_by_chance(63, 200):
            walk = plain_form(house, some_home_walk(chance, house))
            self.assertIs(is_core(house, walk), is_core_here(house, walk))
            walk = some_home_walk(chance, house)
            self.assertIs(is_core(house, walk), is_core_here(house, walk))

    def test_other_values(self):
        for thing in ODD:
            self.assertIs(is_core(SINGLE, thing), False)


class Turned(unittest.TestCase):
    def test_values(self):
        walk = (0, (1, 2, 3, 40), ((0, 0), (1, 0), (0, 1)))
        self.assertEqual(turned_core(PAIR, walk, 0), walk)
        self.assertEqual(turned_core(PAIR, walk, 1), (1, (2, 3, 41, 0), ((1, 0), (0, 1), (0, 0))))
        self.assertEqual(turned_core(PAIR, walk, 2), (1, (3, 41, 2, 0), ((0, 1), (0, 0), (1, 0))))
        self.assertEqual(turned_core(PAIR, walk, 3), (0, (41, 2, 3, 0), ((0, 0), (1, 0), (0, 1))))
        self.assertEqual(turned_core(ALONE, (0, (7,), ()), 0), (0, (7,), ()))
        self.assertEqual(turned_core(SINGLE, (0, (7, 8), (THERE,)), 1), (0, (15, 0), (THERE,)))

    def test_each_many(self):
        for chance, house in houses_by_chance(64, 60):
            walk = some_home_walk(chance, house)
            room, pulls, passes = walk
            for many in range(len(passes) + 1):
                turned = turned_core(house, walk, many)
                ahead = (room, pulls[:many] + (0,), passes[:many])
                self.assertEqual(turned[0], rooms_of(house, walk)[many])
                self.assertEqual(turned[2], passes[many:] + passes[:many])
                self.assertEqual(turned[1][-1] if many else 0, 0)
                self.assertTrue(are_one(house, put_together(ahead, turned, turned_back(house, ahead)), walk))
            with self.assertRaises(BadMany):
                turned_core(house, walk, len(passes) + 1)

    def test_wrong_many(self):
        for many in NO_NUMBERS + (-1, 3, HUGE):
            with self.subTest(many=many), self.assertRaises(BadMany):
                turned_core(SINGLE, (0, (1, 2, 3), (THERE, HERE)), many)
        with self.assertRaises(BadMany):
            turned_core(SINGLE, (0, (1,), ()), 1)


class Home(unittest.TestCase):
    def test_walks_that_do_not_come_home(self):
        for asked, more in ((core_of, ()), (steps_of, ()), (turned_core, (0,)), (turned_core, (None,))):
            with self.assertRaises(NotHome):
                asked(PAIR, AWAY, *more)

    def test_wrong_walks(self):
        for walk in ODD:
            for asked, more in ((core_of, ()), (steps_of, ()), (turned_core, (None,))):
                with self.assertRaises(BadWalk):
                    asked(PAIR, walk, *more)


if __name__ == "__main__":
    unittest.main()
