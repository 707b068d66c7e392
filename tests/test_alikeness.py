"""[2] (d), [50], [51] Walks that are alike, the leads between them, and pulls that go past walks."""

import random
import unittest
from math import prod

from pulledrooms.alikeness import (joining_pulls, lead_between, past_one_another, pulls_past, pulls_past_all)
from pulledrooms.cores import core_of, steps_of, turned_core
from pulledrooms.errors import BadHouse, BadRoom, BadWalk, Elsewhere, NotHome, TooMany
from pulledrooms.forms import are_one, plain_form
from pulledrooms.halls import arrangement_of
from pulledrooms.houses import House
from pulledrooms.ratios import kept_pulls, ratio_of
from tests.helper import (ALONE, HUGE, ODD, PAIR, RING, SINGLE, bare, class_here, done, ends, houses_by_chance,
                          in_row, led_along, look_of, measured_house, pulls_in, put_together, rooms_of, round_trips,
                          rounds_here, some_hall, some_nothing, some_round, some_state, some_walk, turned_back)

T, BACK = (0, 0), (0, 1)
FIVE = House(1, ((0, 2, 0, 3),) * 5)
AWAY = bare(0, [T])


def few_doors(seed, many, **more):
    """So many pairs of a chance and a house of at most four doors."""
    return [(chance, house) for chance, house in houses_by_chance(seed, 4 * many, most_more=2, **more)
            if len(house.doors) <= 4][:many]


def some_lead(chance, house, walk):
    return some_walk(chance, house, chance.randint(0, 4), room=walk[0])


def led_back(house, lead, walk):
    """The lead backwards, then the walk, then the lead: what is led along to walk by the lead."""
    return put_together(turned_back(house, lead), walk, lead)


def core_with(house, one, other):
    """Numbers x such that pulls x, other, pulls -x and one, which are cores that go, may be one, if any x does it.

    By what walks do with numbers there is one such x if the ratio is not 1; otherwise one that is
    below the product of the leaving numbers, as so many pulls can be carried along all passes.
    """
    _, _, factor, more = look_of(house, one)
    _, _, _, less = look_of(house, other)
    if factor != 1:
        number = (more - less) / (factor - 1)
        return [number.numerator] if number.denominator == 1 else []
    return range(prod(abs(ends(house, step)[1]) for step in one[2]))


def alike_here(house, one, other):
    """Whether the walks are alike, by the HEART of [50]; None if that takes too long to tell."""
    (_, core), (_, last) = core_of(house, one), core_of(house, other)
    if len(core[2]) != len(last[2]):
        return False
    if not core[2]:
        if 0 in core[1] + last[1]:
            return core[1] == last[1]
        met, whole = class_here(house, (core[0], core[1][0]), 2000)
        there = (last[0], last[1][0]) in met
        return there if there or whole else None
    for many in range(len(core[2])):
        turned = turned_core(house, core, many)
        if turned[2] == last[2] and look_of(house, turned)[2] == look_of(house, last)[2]:
            numbers = core_with(house, turned, last)
            if len(numbers) > 1500:
                return None
            if any(are_one(house, led_along(house, pulls_in(last[0], x), last), turned) for x in numbers):
                return True
    return False


class Leads(unittest.TestCase):
    def judged(self, house, one, other):
        """Judges the lead between alike walks."""
        lead = lead_between(house, one, other)
        self.assertIsNotNone(lead, (house.rooms, house.doors, one, other))
        self.assertEqual((lead[0], rooms_of(house, lead)[-1]), (one[0], other[0]))
        self.assertTrue(are_one(house, led_along(house, lead, other), one))
        return lead

    def test_walks_led_along_another_one_and_back(self):
        unlike = keep = go = 0
        for chance, house in few_doors(130, 250, numbers=(1, 2, 3, 4, 6), most_rooms=3):
            walk = some_round(chance, house, chance.randint(0, 5))
            lead = some_lead(chance, house, walk)
            other = led_back(house, lead, walk)
            self.judged(house, walk, other)
            self.judged(house, other, walk)
            self.judged(house, walk, walk)
            unlike += walk[0] != other[0]
            keep += steps_of(house, walk) == 0
            go += steps_of(house, walk) > 0
        self.assertGreater(min(unlike, keep, go), 40)

    def test_cores_begun_later(self):
        turned = 0
        for chance, house in few_doors(131, 150, numbers=(1, 2, 3, 4), most_rooms=3):
            walk = some_round(chance, house, chance.randint(1, 5), turns=0.1)
            core = core_of(house, walk)[1]
            for many in range(len(core[2]) + 1):
                later = turned_core(house, core, many)
                other = led_back(house, some_lead(chance, house, later), later)
                self.judged(house, walk, other)
                self.judged(house, other, core)
                turned += 0 < many < len(core[2])
        self.assertGreater(turned, 100)

    def test_walks_near_to_one_another(self):
        """Some pulls changed, so that most of them are not alike any more; judged by the HEART."""
        told = []
        chance = random.Random(138)
        level = [(chance, measured_house(chance, most_rooms=2, most_more=1)) for _ in range(400)]
        for chance, house in few_doors(132, 500, numbers=(1, 2, 3), most_rooms=2) + level:
            walk = some_round(chance, house, chance.randint(1, 3), turns=0.3, pulls=(-3, 4))
            other = led_back(house, some_lead(chance, house, walk), walk)
            pulls, more = list(other[1]), chance.choice((-2, -1, 1, 2, 6))
            pulls[chance.randrange(len(pulls))] += more
            # What is added at one place and taken away at another one is sometimes made up for by a lead.
            pulls[chance.randrange(len(pulls))] -= chance.choice((0, more))
            other = other[0], tuple(pulls), other[2]
            wanted = alike_here(house, walk, other)
            if wanted:
                self.judged(house, walk, other)
            elif wanted is False:
                self.assertIsNone(lead_between(house, walk, other))
                self.assertIsNone(lead_between(house, other, walk))
            told.append((wanted, steps_of(house, walk) > 0, look_of(house, walk)[2] == 1))
        for kind in ((True, True, False), (True, True, True), (False, True, False), (False, True, True),
                     (False, False, True)):
            self.assertGreater(told.count(kind), 15, kind)

    def test_walks_that_keep(self):
        """Pulls of one class of states and of two, led along other walks."""
        told = []
        for chance, house in few_doors(133, 250, numbers=(1, 2, 3, 4, 6), most_rooms=3):
            state = some_state(chance, house)
            met, whole = class_here(house, state, 300)
            other = chance.choice(met) if chance.random() < 0.5 else some_state(chance, house, 3)
            if whole or other in met:
                one, last = pulls_in(*state), pulls_in(*other)
                one = led_along(house, turned_back(house, some_lead(chance, house, one)), one)
                last = led_along(house, turned_back(house, some_lead(chance, house, last)), last)
                if other in met:
                    self.judged(house, one, last)
                else:
                    self.assertIsNone(lead_between(house, one, last))
                told.append(other in met)
        self.assertGreater(min(told.count(True), told.count(False)), 60)

    def test_no_pulls(self):
        for chance, house in few_doors(134, 60, most_rooms=4):
            nothing, none = some_nothing(chance, house, 4), some_nothing(chance, house, 2)
            self.judged(house, nothing, none)
            pulls = pulls_in(nothing[0], chance.choice((1, -6, HUGE)))
            pulls = led_back(house, some_lead(chance, house, nothing), pulls)
            self.assertIsNone(lead_between(house, nothing, pulls))
            self.assertIsNone(lead_between(house, pulls, nothing))
        self.judged(RING, pulls_in(2, 0), pulls_in(3, 0))

    def test_a_walk_that_keeps_and_one_that_goes(self):
        for chance, house in few_doors(135, 60, most_rooms=3):
            walk = some_round(chance, house, 4, turns=0.1)
            if steps_of(house, walk) > 0:
                for pulls in (0, 1, -6):
                    self.assertIsNone(lead_between(house, walk, pulls_in(0, pulls)))
                    self.assertIsNone(lead_between(house, pulls_in(0, pulls), walk))
                # More steps, or as many the other way round, make it another one, too.
                self.assertIsNone(lead_between(house, walk, done(walk, 2)))

    def test_five_doors(self):
        one, other, none, gone = pulls_in(0, 4), pulls_in(0, 6), (0, (0, -3, 2), (T, BACK)), bare(0, [T])
        for first, second in ((one, other), (one, one), (other, (0, (0, 3, 0), (T, BACK)))):
            with self.assertRaises(TooMany) as caught:
                lead_between(FIVE, first, second)
            self.assertEqual(caught.exception.most, 4)
        self.assertIsNone(lead_between(FIVE, one, none))
        self.assertIsNone(lead_between(FIVE, none, one))
        self.assertIsNone(lead_between(FIVE, one, gone))
        self.assertIsNone(lead_between(FIVE, gone, one))
        self.judged(FIVE, none, pulls_in(0, 0))
        self.judged(FIVE, bare(0, [(4, 0)]), (0, (2, -3), ((4, 0),)))
        self.assertIsNone(lead_between(FIVE, bare(0, [(4, 0)]), bare(0, [(3, 0)])))
        self.judged(House(1, FIVE.doors[:4]), one, other)

    def test_many_passes_and_digits(self):
        chance = random.Random(136)
        for house in (SINGLE, House(2, PAIR.doors), House(2, ((0, 2, 1, 3), (1, 4, 0, 9), (0, 1, 0, -5)))):
            walk = some_round(chance, house, 25, turns=0, pulls=(-HUGE, HUGE))
            lead = some_walk(chance, house, 12, room=walk[0], turns=0, pulls=(-HUGE, HUGE))
            self.judged(house, walk, led_back(house, lead, walk))
        self.judged(SINGLE, pulls_in(0, 2 ** 190), pulls_in(0, 3 ** 100 * 2 ** 90))
        self.assertIsNone(lead_between(SINGLE, pulls_in(0, 2 ** 190), pulls_in(0, 3 ** 119)))

    def test_example(self):
        self.judged(SINGLE, pulls_in(0, 4), pulls_in(0, 6))
        self.assertTrue(are_one(SINGLE, led_along(SINGLE, bare(0, [BACK]), pulls_in(0, 4)), pulls_in(0, 6)))
        self.assertTrue(are_one(SINGLE, led_along(SINGLE, bare(0, [T]), pulls_in(0, 6)), pulls_in(0, 4)))
        self.assertIsNone(lead_between(SINGLE, pulls_in(0, 5), pulls_in(0, 6)))
        self.judged(SINGLE, (0, (1, 0), (T,)), (0, (0, 1), (T,)))

    def test_facts(self):
        for chance, house in few_doors(137, 60, numbers=(1, 2, 3, 4), most_rooms=3):
            one = some_round(chance, house, chance.randint(0, 3))
            other = led_back(house, some_lead(chance, house, one), one)
            last = led_back(house, some_lead(chance, house, other), other)
            lead, onward = self.judged(house, one, other), self.judged(house, other, last)
            self.assertTrue(are_one(house, led_along(house, put_together(lead, onward), last), one))
            self.assertTrue(are_one(house, led_along(house, turned_back(house, lead), one), other))
            self.assertTrue(are_one(house, led_along(house, lead, done(other, 3)), done(one, 3)))
            self.assertEqual(steps_of(house, one), steps_of(house, other))
            self.assertEqual(ratio_of(house, one), ratio_of(house, other))
            hall = some_hall(chance, house)
            lengths = [sorted(len(seats) for seats in rounds_here(arrangement_of(hall, walk))) for walk in (one, last)]
            self.assertEqual(lengths[0], lengths[1])

    def test_errors(self):
        for thing in ODD + ((0, (True,), ()), [0, (1,), ()]):
            with self.assertRaises(BadWalk):
                lead_between(PAIR, thing, AWAY)
            with self.assertRaises(BadWalk):
                lead_between(PAIR, pulls_in(0, 1), thing)
            with self.assertRaises(NotHome):
                lead_between(PAIR, AWAY, thing)
        for house in (PAIR, House(2, PAIR.doors * 3)):
            with self.assertRaises(NotHome):
                lead_between(house, pulls_in(0, 1), AWAY)
        with self.assertRaises(BadHouse):
            lead_between(None, None, None)


class Joining(unittest.TestCase):
    def judged(self, house, one, other):
        """Judges joining_pulls by trying; tells the rows."""
        rows = joining_pulls(house, one, other)
        self.assertIsInstance(rows, list)
        self.assertLessEqual(len(rows), 1)
        for first, step in rows:
            self.assertTrue(step == 0 or 0 <= first < step)
            for x in (first, first + 7 * step, first - 5 * step):
                self.assertTrue(are_one(house, led_along(house, pulls_in(one[0], x), other), one))
        for x in range(-40, 41):
            joins = are_one(house, led_along(house, pulls_in(one[0], x), other), one)
            self.assertIs(any(in_row(row, x) for row in rows), joins, (house.doors, one, other, x))
        return rows

    def test_by_trying(self):
        kinds = []
        for chance, house in houses_by_chance(140, 250, numbers=(1, 2, 3), most_rooms=2, most_more=2):
            one = some_round(chance, house, chance.randint(0, 4), turns=0.4)
            x = chance.randint(-30, 30)
            other = led_along(house, pulls_in(one[0], -x), one)
            if chance.random() < 0.4:
                pulls = list(other[1])
                pulls[chance.randrange(len(pulls))] += chance.choice((-1, 1, 2))
                other = other[0], tuple(pulls), other[2]
            rows = self.judged(house, one, other)
            ratio = ratio_of(house, plain_form(house, one)) == (1, 1)
            if rows:
                # There is more than one just if the ratio is 1, as it is without passes.
                self.assertIs(rows[0][1] > 0, ratio)
            kinds.append((len(rows), ratio, ratio_of(house, one) == (-1, 1)))
        for kind in ((0, True, False), (0, False, False), (1, True, False), (1, False, False), (1, False, True)):
            self.assertGreater(kinds.count(kind), 3, kind)

    def test_example_and_by_hand(self):
        self.assertEqual(joining_pulls(SINGLE, (0, (1, 0), (T,)), (0, (0, 1), (T,))), [(1, 0)])
        self.assertEqual(joining_pulls(SINGLE, (0, (0, 1), (T,)), (0, (1, 0), (T,))), [(-1, 0)])
        self.assertEqual(joining_pulls(SINGLE, (0, (0, 1, 0), (T, BACK)), (0, (0, 1, 0), (T, BACK))), [(0, 2)])
        self.assertEqual(joining_pulls(SINGLE, (0, (1, 1, -1), (T, BACK)), (0, (0, 1, 0), (T, BACK))), [(1, 2)])
        self.assertEqual(joining_pulls(SINGLE, pulls_in(0, 4), pulls_in(0, 4)), [(0, 1)])
        self.assertEqual(joining_pulls(SINGLE, pulls_in(0, 4), pulls_in(0, 6)), [])
        self.assertEqual(joining_pulls(SINGLE, pulls_in(0, 4), bare(0, [T])), [])
        self.assertEqual(joining_pulls(SINGLE, bare(0, [T]), bare(0, [BACK])), [])
        # Walks need not be plain: 6 pulls between the passes are 4 pulls in place of them.
        self.assertEqual(joining_pulls(SINGLE, pulls_in(0, 4), (0, (0, 6, 0), (T, BACK))), [(0, 1)])
        self.assertEqual(joining_pulls(SINGLE, (0, (2, 0), (T,)), (0, (0, 3), (T,))), [(0, 0)])
        self.assertEqual(joining_pulls(House(1, ((0, 6, 0, 6),)), (0, (4, 1), (T,)), (0, (0, 5), (T,))), [(4, 6)])
        turning = House(1, ((0, 2, 0, -2),))
        self.assertEqual(joining_pulls(turning, (0, (0, 4), (T,)), (0, (0, 0), (T,))), [(-2, 0)])
        self.assertEqual(joining_pulls(turning, (0, (0, 2), (T,)), (0, (0, 0), (T,))), [])

    def test_many_digits(self):
        for x in (HUGE, -HUGE, 7):
            one = (0, (5, HUGE, 1, 0), (T, BACK, BACK))
            self.assertEqual(joining_pulls(SINGLE, led_along(SINGLE, pulls_in(0, x), one), one), [(x, 0)])
        long = (0, tuple(range(61)), (T,) * 60)
        self.assertEqual(joining_pulls(SINGLE, led_along(SINGLE, pulls_in(0, 9), long), long), [(9, 0)])
        level = House(1, ((0, 1, 0, 1), (0, 99, 0, 99)))
        long = (0, tuple(range(61)), (T, (1, 0)) * 30)
        self.assertEqual(joining_pulls(level, led_along(level, pulls_in(0, HUGE), long), long), [(HUGE % 99, 99)])

    def test_errors(self):
        for asked in (joining_pulls, past_one_another):
            for thing in ODD + ((0, (True,), ()), [0, (1,), ()]):
                with self.assertRaises(BadWalk):
                    asked(PAIR, thing, AWAY)
                with self.assertRaises(NotHome):
                    asked(PAIR, AWAY, thing)
                with self.assertRaises(BadWalk):
                    asked(PAIR, pulls_in(0, 1), thing)
            with self.assertRaises(NotHome):
                asked(PAIR, pulls_in(1, 1), AWAY)
            with self.assertRaises(Elsewhere):
                asked(PAIR, pulls_in(0, 1), pulls_in(1, 1))
            with self.assertRaises(BadHouse):
                asked(None, None, None)


class Past(unittest.TestCase):
    def test_past_one_another(self):
        told = []
        for chance, house in houses_by_chance(141, 200, numbers=(1, 2, 3), most_rooms=2, most_more=2):
            one = some_round(chance, house, chance.randint(0, 4), pulls=(-3, 3))
            other = chance.choice((done(one, 2), turned_back(house, one), pulls_in(one[0], chance.randint(-6, 6)),
                                   some_round(chance, house, 3, room=one[0])))
            past = are_one(house, put_together(one, other), put_together(other, one))
            self.assertIs(past_one_another(house, one, other), past)
            self.assertIs(past_one_another(house, other, one), past)
            told.append(past)
        self.assertGreater(min(told.count(True), told.count(False)), 40)
        self.assertIs(past_one_another(SINGLE, pulls_in(0, HUGE), pulls_in(0, -7)), True)
        self.assertIs(past_one_another(SINGLE, pulls_in(0, 2), bare(0, [T])), False)
        self.assertIs(past_one_another(House(1, ((0, 2, 0, 2),)), pulls_in(0, -2), bare(0, [T])), True)

    def test_pulls_past_by_trying(self):
        many = []
        for chance, house in houses_by_chance(142, 200, numbers=(1, 2, 3), most_rooms=2, most_more=2):
            walk = some_round(chance, house, chance.randint(0, 4), turns=0.6)
            least = pulls_past(house, walk)
            many.append(least)
            tried = [x for x in range(1, 73) if past_one_another(house, pulls_in(walk[0], x), walk)]
            self.assertEqual(tried, [] if least is None else list(range(least, 73, least)))
            plain = plain_form(house, walk)
            self.assertIs(least is None, ratio_of(house, plain) != (1, 1))
        self.assertGreater(min(many.count(None), many.count(1), len(many) - many.count(None) - many.count(1)), 20)

    def test_pulls_past_by_hand(self):
        self.assertEqual(pulls_past(SINGLE, (0, (0, 1, 0), (T, BACK))), 2)
        self.assertEqual(pulls_past(SINGLE, (0, (0, 1, 0, 1, 0), (T, BACK, T, BACK))), 2)
        self.assertEqual(pulls_past(SINGLE, (0, (0, 0, 1, 0, 0), (T, T, BACK, BACK))), 4)
        self.assertEqual(pulls_past(SINGLE, (0, (0, 3, 0), (T, BACK))), 1)
        self.assertEqual(pulls_past(SINGLE, pulls_in(0, 0)), 1)
        self.assertIsNone(pulls_past(SINGLE, bare(0, [T])))
        self.assertIsNone(pulls_past_all(SINGLE, 0))
        self.assertIsNone(pulls_past(House(1, ((0, 2, 0, -2),)), bare(0, [T])))
        for thing in ODD:
            with self.assertRaises(BadWalk):
                pulls_past(PAIR, thing)
        with self.assertRaises(NotHome):
            pulls_past(PAIR, AWAY)
        with self.assertRaises(BadHouse):
            pulls_past(None, None)


def with_leaves(chance, house):
    """The house with some more rooms, each behind one door that can be folded; doors in another order."""
    rooms, doors = house.rooms, list(house.doors)
    for _ in range(chance.choice((0, 0, 1, 2))):
        doors.append((chance.randrange(rooms), chance.choice((1, 2, 3, 4, -6)), rooms, chance.choice((1, -1))))
        rooms += 1
    return House(rooms, tuple(chance.sample(doors, len(doors))))


class PastAll(unittest.TestCase):
    def judged(self, chance, house, room):
        """Judges pulls_past_all by walks of which all that come home are joined; tells the number."""
        least = pulls_past_all(house, room)
        trips = round_trips(house, room)
        if least is None:
            self.assertTrue(any(ratio_of(house, trip) != (1, 1) for trip in trips))
            return None
        self.assertTrue(all(past_one_another(house, pulls_in(room, least), trip) for trip in trips))
        walk = some_round(chance, house, 5, room=room)
        self.assertTrue(past_one_another(house, pulls_in(room, -least), walk))
        for less in range(1, least):
            if least % less == 0:
                self.assertFalse(all(past_one_another(house, pulls_in(room, less), trip) for trip in trips))
        return least

    def test_by_walks_of_which_all_are_joined(self):
        told, folded = [], 0
        chance = random.Random(143)
        for _ in range(250):
            house = with_leaves(chance, measured_house(chance))
            for room in range(house.rooms):
                least = self.judged(chance, house, room)
                told.append(least)
                # Where doors can be folded, fewer pulls may go past all walks than can be carried all ways.
                folded += least is not None and least != kept_pulls(house)[room]
        for _, house in houses_by_chance(144, 60, most_rooms=3):
            told.append(self.judged(chance, house, 0))
        self.assertGreater(min(told.count(None), told.count(1), told.count(2), told.count(6), folded), 10)

    def test_by_hand(self):
        self.assertEqual(pulls_past_all(ALONE, 0), 1)
        # All can be folded away: each pull is some pulls of one room.
        chain = tuple((room, 999, room + 1, 1) for room in range(11))
        for room in range(12):
            self.assertEqual(pulls_past_all(House(12, chain), room), 1)
        # 7 pulls in the room that stays go past all walks; a pull in room 11 is 999 ** 11 of them.
        self.assertEqual(pulls_past_all(House(12, chain + ((0, 7, 0, 7),)), 0), 7)
        self.assertEqual(pulls_past_all(House(12, chain + ((0, 7, 0, 7),)), 11), 7)
        self.assertEqual(pulls_past_all(House(12, chain + ((0, 27, 0, 27),)), 11), 1)
        self.assertEqual(pulls_past_all(House(12, chain + ((11, 7, 11, 7),)), 0), 7 * 999 ** 11)
        # Room 2 is folded away to room 1, and this one to room 0.
        leaves = House(3, ((1, 2, 2, 1), (0, 3, 1, 1), (0, 5, 0, 5)))
        self.assertEqual([pulls_past_all(leaves, room) for room in range(3)], [5, 5, 5])
        leaves = House(3, ((1, 2, 2, 1), (0, 3, 1, -1), (0, 12, 0, 12)))
        self.assertEqual([pulls_past_all(leaves, room) for room in range(3)], [12, 4, 2])
        self.assertEqual(pulls_past_all(House(2, ((0, 2, 1, 3),)), 0), 2)
        self.assertEqual(pulls_past_all(House(2, ((0, 2, 1, 3),)), 1), 3)
        self.assertIsNone(pulls_past_all(House(2, ((0, 2, 1, 3), (0, 4, 1, -6))), 1))
        self.assertEqual(pulls_past_all(House(2, ((0, 2, 1, 3), (0, 4, 1, 6))), 1), 6)
        self.assertEqual(pulls_past_all(House(3, ((0, -6, 1, 1), (0, 4, 0, 4), (2, 3, 0, 3))), 1), 2)

    def test_errors(self):
        for thing in ODD + (2, -1):
            if thing not in (0, 1) or isinstance(thing, bool):
                with self.assertRaises(BadRoom):
                    pulls_past_all(PAIR, thing)
        with self.assertRaises(BadHouse):
            pulls_past_all(None, None)


if __name__ == "__main__":
    unittest.main()
