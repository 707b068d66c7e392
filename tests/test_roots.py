"""[52] Roots of walks that go."""

import random
import unittest

from pulledrooms.cores import core_of, is_core, steps_of
from pulledrooms.errors import BadHouse, BadMany, BadWalk, Keeps, NoCore, NotHome
from pulledrooms.forms import are_one, plain_form
from pulledrooms.houses import House
from pulledrooms.roots import greatest_root, root_of, root_pulls
from pulledrooms.walks import power
from tests.helper import (ALONE, HUGE, NO_NUMBERS, ODD, PAIR, RING, SINGLE, bare, done, houses_by_chance, in_row,
                          led_along, measured_house, pulls_in, rooms_of, some_round, some_walk, turned_back)

T, BACK = (0, 0), (0, 1)
AWAY = bare(0, [T])
LEVEL = House(1, ((0, 3, 0, 3), (0, 2, 0, -2)))


def some_going(chance, house, most=4):
    """A walk that comes home and goes, left to chance."""
    while True:
        walk = some_round(chance, house, chance.randint(1, most), turns=0.2, pulls=(-4, 8))
        if steps_of(house, walk) > 0:
            return walk


def has_doors(house):
    return any(near == far for near, _, far, _ in house.doors) or len(house.doors) >= house.rooms


def going_houses(seed, many, **more):
    return [(chance, house) for chance, house in houses_by_chance(seed, many, **more) if has_doors(house)]


def root_by(core, many, last):
    """The walk with the first one of so many parts of the core's passes, and these last pulls, or None."""
    room, pulls, passes = core
    if len(passes) % many != 0 or passes != passes[:len(passes) // many] * many:
        return None
    return room, pulls[:len(passes) // many] + (last,), passes[:len(passes) // many]


def roots_here(house, core, many, numbers):
    """The numbers y that fit, by trying."""
    if root_by(core, many, 0) is None:
        return []
    return [y for y in numbers if are_one(house, done(root_by(core, many, y), many), core)]


class RootOf(unittest.TestCase):
    def judged(self, house, walk, many):
        root = root_of(house, walk, many)
        self.assertIsNotNone(root, (house.doors, walk, many))
        self.assertEqual((root[0], rooms_of(house, root)[-1]), (walk[0], walk[0]))
        self.assertTrue(are_one(house, done(root, many), walk))
        self.assertTrue(are_one(house, power(house, root, many), walk))
        self.assertEqual(steps_of(house, walk), many * steps_of(house, root))

    def test_powers_led_along_another_walk(self):
        for chance, house in going_houses(150, 130, numbers=(1, 2, 3, 4, 6), most_rooms=3):
            root = some_going(chance, house)
            for many in (2, 3, chance.randint(4, 9)):
                walk = done(root, many)
                lead = some_walk(chance, house, 3, room=walk[0])
                onward = led_along(house, turned_back(house, lead), walk)
                for each in (walk, plain_form(house, walk), onward):
                    self.judged(house, each, many)

    def test_walks_near_to_powers(self):
        none = some = 0
        chance = random.Random(152)
        level = [(chance, measured_house(chance, most_rooms=2)) for _ in range(150)]
        level = [(chance, house) for chance, house in level if has_doors(house)]
        for chance, house in going_houses(151, 200, numbers=(1, 2, 3), most_rooms=2) + level:
            many = chance.choice((2, 2, 3))
            room, pulls, passes = done(some_going(chance, house, 2), many)
            pulls = list(pulls)
            pulls[chance.randrange(len(pulls))] += chance.choice((-3, -2, -1, 1, 2, 3))
            walk = room, tuple(pulls), passes
            if steps_of(house, walk) == 0:
                continue
            lead, core = core_of(house, walk)
            if roots_here(house, core, many, range(-120, 121)):
                self.judged(house, walk, many)
                some += 1
            else:
                self.assertIsNone(root_of(house, walk, many), (house.doors, walk, many))
                none += 1
        self.assertGreater(min(none, some), 40)

    def test_passes_that_are_not_the_same_again(self):
        house = House(1, ((0, 2, 0, 3), (0, 2, 0, 3)))
        self.assertIsNone(root_of(house, bare(0, [(0, 0), (1, 0)]), 2))
        self.assertIsNone(root_of(house, bare(0, [(0, 0)] * 3), 2))
        self.assertIsNone(root_of(house, bare(0, [(0, 0)]), 2))
        self.assertIsNone(root_of(house, bare(0, [(0, 0), (1, 0)] * 2), 4))
        self.judged(house, bare(0, [(0, 0), (1, 0)] * 2), 2)
        self.judged(house, bare(0, [(0, 0)] * 9), 9)

    def test_example(self):
        walk = (0, (0, 2, 0), (T, T))
        self.assertEqual(plain_form(SINGLE, walk), (0, (0, 0, 3), (T, T)))
        self.assertIsNone(root_of(SINGLE, walk, 2))
        self.assertEqual(root_pulls(SINGLE, (0, (0, 0, 3), (T, T)), 2), [])
        self.judged(SINGLE, (0, (0, 0, 5), (T, T)), 2)
        self.assertEqual(root_pulls(SINGLE, (0, (0, 0, 5), (T, T)), 2), [(2, 0)])
        self.assertIsNone(root_of(SINGLE, (0, (0, 0, 4), (T, T)), 2))

    def test_sixty_passes(self):
        chance = random.Random(153)
        for house in (SINGLE, LEVEL):
            root = (0, (HUGE, 1, 2, 3, 4, -HUGE), (T,) * 5)
            lead = some_walk(chance, house, 3, turns=0)
            for many in (2, 3, 9):
                self.judged(house, led_along(house, lead, done(root, many)), many)

    def test_errors(self):
        going = bare(0, [T, T])
        for thing in ODD + ((0, (True,), ()), [0, (1,), ()]):
            for asked, more in ((root_of, (None,)), (root_pulls, (None,)), (greatest_root, ())):
                with self.assertRaises(BadWalk):
                    asked(PAIR, thing, *more)
        for asked, more in ((root_of, (None,)), (root_pulls, (None,)), (greatest_root, ())):
            with self.assertRaises(NotHome):
                asked(PAIR, AWAY, *more)
            for walk in (pulls_in(0, 4), pulls_in(0, 0), (0, (0, 1, 0), (T, BACK)), (0, (1, 3, 0), (T, BACK))):
                with self.assertRaises(Keeps):
                    asked(SINGLE, walk, *more)
            with self.assertRaises(BadHouse):
                asked(None, None, *more)
        for many in NO_NUMBERS + (0, 1, -2, 10, HUGE):
            with self.assertRaises(BadMany):
                root_of(SINGLE, going, many)
            with self.assertRaises(BadMany):
                root_pulls(SINGLE, going, many)
        for walk in ((0, (2, 0), (T,)), (0, (0, 0, 1, 0), (T, T, BACK)), (0, (-1, 0), (BACK,))):
            self.assertFalse(is_core(SINGLE, walk))
            with self.assertRaises(NoCore):
                root_pulls(SINGLE, walk, None)
            self.assertIsNone(root_of(SINGLE, walk, 2))


class RootPulls(unittest.TestCase):
    def judged(self, house, core, many):
        rows = root_pulls(house, core, many)
        self.assertIsInstance(rows, list)
        self.assertLessEqual(len(rows), 1)
        for first, step in rows:
            self.assertTrue(step == 0 or 0 <= first < step)
            for y in (first, first + 9 * step, first - 4 * step):
                self.assertTrue(are_one(house, done(root_by(core, many, y), many), core))
        found = roots_here(house, core, many, range(-60, 61))
        self.assertEqual(found, [y for y in range(-60, 61) if any(in_row(row, y) for row in rows)])
        return rows

    def test_by_trying(self):
        kinds = []
        chance = random.Random(155)
        level = [(chance, measured_house(chance, most_rooms=2, turns=0.6)) for _ in range(150)]
        level = [(chance, house) for chance, house in level if has_doors(house)]
        for chance, house in going_houses(154, 100, numbers=(1, 2, 3), most_rooms=2) + level:
            many = chance.choice((2, 2, 3, 4))
            core = core_of(house, done(some_going(chance, house, 2), many))[1]
            self.assertEqual(len(self.judged(house, core, many)), 1)
            near = core[0], core[1][:-1] + (core[1][-1] + chance.choice((-2, -1, 1, 2)),), core[2]
            if is_core(house, near):
                rows = self.judged(house, near, many)
                kinds.append("none" if not rows else "row" if rows[0][1] else "one")
            core = core_of(house, some_going(chance, house))[1]
            self.judged(house, core, many)
        self.assertGreater(min(kinds.count(kind) for kind in ("none", "one")), 15)

    def test_by_hand(self):
        self.assertEqual(root_pulls(SINGLE, bare(0, [T] * 4), 2), [(0, 0)])
        self.assertEqual(root_pulls(SINGLE, bare(0, [T] * 4), 4), [(0, 0)])
        self.assertEqual(root_pulls(SINGLE, bare(0, [T] * 4), 3), [])
        self.assertEqual(root_pulls(SINGLE, bare(0, [T] * 4), 9), [])
        # In this house a pull goes past the door as a pull back: any root, done twice, is the same.
        turning = House(1, ((0, 1, 0, -1),))
        self.assertEqual(root_pulls(turning, bare(0, [T, T]), 2), [(0, 1)])
        self.assertEqual(root_pulls(turning, (0, (0, 0, 1), (T, T)), 2), [])
        self.assertEqual(root_pulls(LEVEL, bare(0, [(1, 0), (1, 0)]), 2), [(0, 2)])
        self.assertEqual(root_pulls(LEVEL, (0, (0, 1, 1), ((1, 0), (1, 0))), 2), [(1, 2)])
        self.assertEqual(root_pulls(LEVEL, (0, (0, 1, 0), ((1, 0), (1, 0))), 2), [])


class GreatestRoot(unittest.TestCase):
    def judged(self, house, walk):
        """Judges greatest_root; tells the number."""
        found = greatest_root(house, walk)
        self.assertIsInstance(found, tuple)
        many, root = found
        self.assertEqual((root[0], rooms_of(house, root)[-1]), (walk[0], walk[0]))
        self.assertTrue(are_one(house, done(root, many), walk))
        lead, core = core_of(house, walk)
        for more in range(many + 1, len(core[2]) + 1):
            self.assertEqual(roots_here(house, core, more, range(-60, 61)), [])
            if more < 10:
                self.assertIsNone(root_of(house, walk, more))
        self.assertEqual(steps_of(house, walk), many * steps_of(house, root))
        return many

    def test_roots_of_roots(self):
        told = []
        for chance, house in going_houses(156, 120, numbers=(1, 2, 3), most_rooms=3):
            walk = done(some_going(chance, house, 3), chance.choice((1, 1, 2)))
            once = self.judged(house, walk)
            for one, other in ((2, 2), (2, 3)):
                self.assertEqual(self.judged(house, done(done(walk, one), other)) % (one * other), 0)
            lead = some_walk(chance, house, 3, room=walk[0])
            onward = led_along(house, turned_back(house, lead), walk)
            self.assertEqual(self.judged(house, onward), once)
            for many in range(2, 10):
                # A root for many is there just if many divides what all roots come from.
                self.assertTrue(root_of(house, onward, many) is None or steps_of(house, walk) % many == 0)
            told.append(once)
        self.assertGreater(min(told.count(1), len(told) - told.count(1)), 10)

    def test_numbers_above_nine(self):
        for many in (12, 30, 60):
            self.assertEqual(self.judged(SINGLE, bare(0, [T] * many)), many)
            self.assertEqual(self.judged(LEVEL, bare(0, [T] * many)), many)
        self.assertEqual(self.judged(SINGLE, bare(0, [T] * 59 + [T])), 60)
        self.assertEqual(self.judged(LEVEL, bare(0, [T, (1, 0)] * 30)), 30)
        self.assertEqual(self.judged(LEVEL, (0, (1,) + (0,) * 60, (T, (1, 0)) * 30)), 1)
        self.assertEqual(self.judged(LEVEL, done((0, (1, 2, 0), (T, (1, 0))), 15)), 15)

    def test_example(self):
        self.assertEqual(self.judged(SINGLE, (0, (0, 2, 0), (T, T))), 1)
        self.assertEqual(self.judged(SINGLE, (0, (0, 0, 5), (T, T))), 2)

    def test_other_houses(self):
        chance = random.Random(157)
        for house in (PAIR, RING):
            for _ in range(5):
                walk = some_going(chance, house, 6)
                self.assertEqual(self.judged(house, done(walk, 3)) % (3 * self.judged(house, walk)), 0)
        with self.assertRaises(Keeps):
            greatest_root(ALONE, pulls_in(0, 6))


if __name__ == "__main__":
    unittest.main()
