"""[2] (h), [82] Covers: the house of the rounds to which walks lead a seat."""

import random
import unittest
from math import gcd, lcm

from pulledrooms.covers import cover_doors, cover_of, cover_rooms, into_cover, out_of_cover, plain_cover
from pulledrooms.errors import BadHall, BadHouse, BadSeat, BadWalk, Elsewhere, NotHome, NotWithin, TooMany
from pulledrooms.forms import are_one, is_nothing, plain_form
from pulledrooms.halls import Hall
from pulledrooms.houses import House
from pulledrooms.ratios import kept_pulls, ratio_of, stretching_walk, turning_walk
from pulledrooms.returns import hall_of_returns
from pulledrooms.walks import comes_home
from tests.helper import (ALONE, HUGE, NO_NUMBERS, ODD, PAIR, RING, SINGLE, TWINS, bare, done, houses_by_chance,
                          lead_seat, led_along, measured_house, met_by, pull_all, pulls_in, put_together, rooms_of,
                          round_here, rounds_here, some_hall, some_nothing, some_round, some_walk)

LINE = House(2, ((0, 2, 1, 3),))
LEVEL = House(1, ((0, 1, 0, 1),))


def rounds_met(hall, seat):
    """The rounds to which walks lead the seat, taken in room 0."""
    return sorted({(room, min(round_here(hall, room, at))) for room, at in met_by(hall, 0, seat)})


def doors_met(hall, seat):
    """The pairs (door, place) of the doors of the cover, each place found by pulling."""
    met, found = met_by(hall, 0, seat), set()
    for door, (near, first, _, _) in enumerate(hall.house.doors):
        pulled = pull_all(hall.ropes[near], first)
        for room, at in met:
            if room == near:
                found.add((door, min(seats for seats in rounds_here(pulled) if at in seats)[0]))
    return sorted(found)


def lead_here(hall, room, seat):
    return round_here(hall, room, seat).index(seat)


def cover_here(hall, seat):
    """(number of rooms, doors) of the cover."""
    rounds, doors = rounds_met(hall, seat), []
    for door, place in doors_met(hall, seat):
        near, first, far, second = hall.house.doors[door]
        there = hall.ways[door][place]
        ours, theirs = round_here(hall, near, place), round_here(hall, far, there)
        doors.append((rounds.index((near, min(ours))), first // gcd(first, len(ours)),
                      rounds.index((far, min(theirs))), second // gcd(second, len(theirs))))
    return len(rounds), tuple(doors)


def some_covered(seed, many, **more):
    """So many tuples (chance, Hall, seat, cover) of covers that are not too large."""
    found = []
    for chance, house in houses_by_chance(seed, many, most_rooms=3, numbers=(1, 2, 3, 4, 6), most_more=2):
        hall = some_hall(chance, house, **more)
        seat = chance.randrange(hall.seats)
        rooms, doors = cover_here(hall, seat)
        if rooms <= 12 and len(doors) <= 20:
            found.append((chance, hall, seat, House(rooms, doors)))
    return found


class CoverOf(unittest.TestCase):
    def test_by_a_search(self):
        many = 0
        for chance, house in houses_by_chance(170, 250, most_rooms=3, numbers=(1, 2, 3, 4, 6), most_more=2):
            hall = some_hall(chance, house, parts=3)
            seat = chance.randrange(hall.seats)
            rounds, doors = rounds_met(hall, seat), doors_met(hall, seat)
            self.assertEqual(cover_rooms(hall, seat), rounds)
            self.assertEqual(cover_doors(hall, seat), doors)
            if len(rounds) > 12 or len(doors) > 20:
                with self.assertRaises(TooMany) as caught:
                    cover_of(hall, seat)
                self.assertEqual(caught.exception.most, 12 if len(rounds) > 12 else 20)
                continue
            cover = cover_of(hall, seat)
            self.assertEqual((cover.rooms, cover.doors), cover_here(hall, seat))
            many += len(rounds) > 2
        self.assertGreater(many, 60)

    def test_examples(self):
        for house in (SINGLE, PAIR, TWINS, RING, ALONE, LINE):
            hall = Hall(house, ((0,),) * house.rooms, ((0,),) * len(house.doors))
            self.assertEqual(cover_of(hall, 0), house)
            self.assertEqual(cover_rooms(hall, 0), [(room, 0) for room in range(house.rooms)])
            self.assertEqual(cover_doors(hall, 0), [(door, 0) for door in range(len(house.doors))])
        chance = random.Random(171)
        ropes = ((1, 0, 3, 2, 5, 4), (1, 2, 0, 4, 5, 3))
        for _ in range(20):
            hall = Hall(LINE, ropes, (tuple(chance.sample(range(6), 6)),))
            cover = cover_of(hall, 0) if len(cover_rooms(hall, 0)) == 5 else None
            if cover is not None:
                self.assertEqual((cover.rooms, len(cover.doors)), (5, 6))
                self.assertEqual({door[1::2] for door in cover.doors}, {(1, 1)})
        hall = Hall(LINE, ropes, ((0, 3, 1, 4, 2, 5),))
        self.assertEqual(cover_rooms(hall, 5), [(0, 0), (0, 2), (0, 4), (1, 0), (1, 3)])
        self.assertEqual(cover_doors(hall, 5), [(0, seat) for seat in range(6)])
        self.assertEqual(cover_of(hall, 5), House(5, ((0, 1, 3, 1), (0, 1, 4, 1), (1, 1, 3, 1), (1, 1, 4, 1),
                                                      (2, 1, 3, 1), (2, 1, 4, 1))))

    def test_signs_stay(self):
        house = House(2, ((0, -2, 1, 4), (1, 3, 1, -3), (1, -4, 0, -2)))
        hall = hall_of_returns(house, (1, 2))
        self.assertEqual(cover_doors(hall, 0), [(0, 0), (0, 1), (1, 0), (2, 0), (2, 1)])
        self.assertEqual(cover_of(hall, 0), House(3, ((0, -2, 2, 2), (1, -2, 2, 2), (2, 3, 2, -3), (2, -2, 0, -2),
                                                      (2, -2, 1, -2))))

    def test_only_rounds_that_are_reached(self):
        hall = Hall(LINE, ((1, 0, 2, 3), (0, 1, 2, 3)), ((0, 1, 3, 2),))
        self.assertEqual(cover_rooms(hall, 1), [(0, 0), (1, 0), (1, 1)])
        self.assertEqual(cover_rooms(hall, 2), [(0, 2), (1, 3)])
        self.assertEqual(cover_rooms(hall, 3), [(0, 3), (1, 2)])
        self.assertEqual(cover_doors(hall, 3), [(0, 3)])
        self.assertEqual(cover_of(hall, 3), LINE)
        self.assertEqual(cover_of(hall, 1), House(3, ((0, 1, 1, 3), (0, 1, 2, 3))))

    def test_twelve_and_thirteen_rounds(self):
        for seats, more in ((12, False), (13, True), (5000, True)):
            hall = Hall(LEVEL, (tuple(range(seats)),), (tuple(range(1, seats)) + (0,),))
            self.assertEqual(cover_rooms(hall, 3), [(0, seat) for seat in range(seats)])
            self.assertEqual(cover_doors(hall, 3), [(0, seat) for seat in range(seats)])
            if more:
                self.refused(hall, 12)
            else:
                doors = tuple((seat, 1, (seat + 1) % 12, 1) for seat in range(12))
                self.assertEqual(cover_of(hall, 3), House(12, doors))
        # Of more than 12 rounds and more than 20 doors the rounds are told.
        house = House(1, ((0, 1, 0, 1),) * 2)
        self.refused(Hall(house, (tuple(range(13)),), (tuple(range(1, 13)) + (0,),) * 2), 12)
        self.refused(Hall(house, (tuple(range(11)),), (tuple(range(1, 11)) + (0,),) * 2), 20)

    def refused(self, hall, most):
        for asked, more in ((cover_of, ()), (out_of_cover, (None,)), (into_cover, (pulls_in(0, 0),))):
            with self.assertRaises(TooMany) as caught:
                asked(hall, 3, *more)
            self.assertEqual(caught.exception.most, most)

    def test_twenty_and_twenty_one_doors(self):
        round_trip = tuple(range(1, 7)) + (0,)
        hall = hall_of_returns(House(1, ((0, 7, 0, 7),) * 3), (7,))
        self.assertEqual(hall.ropes, (round_trip,))
        self.refused(hall, 20)
        hall = hall_of_returns(House(1, ((0, 5, 0, -5),) * 4), (5,))
        self.assertEqual(cover_of(hall, 3), House(1, ((0, 1, 0, -1),) * 20))
        self.refused(hall_of_returns(House(1, ((0, 5, 0, -5),) * 4 + ((0, 1, 0, 1),)), (5,)), 20)

    def test_errors(self):
        hall = hall_of_returns(LINE, (2, 3))
        for thing in ODD + (LINE, hall.ropes):
            for asked, more in ((cover_rooms, ()), (cover_doors, ()), (cover_of, ()), (out_of_cover, (None,)),
                                (into_cover, (None,))):
                with self.assertRaises(BadHall):
                    asked(thing, None, *more)
        for thing in NO_NUMBERS + (-1, 6, HUGE):
            for asked, more in ((cover_rooms, ()), (cover_doors, ()), (cover_of, ()), (out_of_cover, (None,)),
                                (into_cover, (None,))):
                with self.assertRaises(BadSeat):
                    asked(hall, thing, *more)


class OutAndIn(unittest.TestCase):
    def out_here(self, hall, seat, walk):
        """out_of_cover, piece by piece."""
        house, rounds, doors = hall.house, rounds_met(hall, seat), doors_met(hall, seat)
        cover = House(*cover_here(hall, seat))
        rooms = rooms_of(cover, walk)
        found = pulls_in(rounds[rooms[0]][0], 0)
        for at, pulls in enumerate(walk[1]):
            room, least = rounds[rooms[at]]
            found = put_together(found, pulls_in(room, pulls * len(round_here(hall, room, least))))
            if at < len(walk[2]):
                (door, place), side = doors[walk[2][at][0]], walk[2][at][1]
                near, _, far, _ = house.doors[door]
                x, y = lead_here(hall, near, place), lead_here(hall, far, hall.ways[door][place])
                ahead, behind = ((near, x), (far, -y)) if side == 0 else ((far, y), (near, -x))
                found = put_together(found, pulls_in(*ahead), bare(ahead[0], [(door, side)]), pulls_in(*behind))
        return found

    def test_out_walk_by_walk(self):
        told = []
        for chance, hall, seat, cover in some_covered(172, 250):
            rounds = rounds_met(hall, seat)
            nothing, walk = some_nothing(chance, cover, 4), some_walk(chance, cover, chance.randint(0, 5))
            for each in (nothing, walk, some_round(chance, cover, 3)):
                out = out_of_cover(hall, seat, each)
                self.assertEqual(out, self.out_here(hall, seat, each))
                rooms = rooms_of(cover, each)
                self.assertEqual(lead_seat(hall, out, rounds[rooms[0]][1]), rounds[rooms[-1]][1])
                told.append(is_nothing(cover, each))
                self.assertIs(is_nothing(hall.house, out), told[-1])
                if comes_home(cover, each):
                    self.assertEqual(ratio_of(cover, each), ratio_of(hall.house, out))
            self.assertTrue(is_nothing(cover, nothing))
            same = plain_form(cover, walk)
            self.assertTrue(are_one(hall.house, out_of_cover(hall, seat, walk), out_of_cover(hall, seat, same)))
        self.assertGreater(min(told.count(True), told.count(False)), 150)

    def test_in_and_out_again(self):
        many = 0
        for chance, hall, seat, cover in some_covered(173, 300):
            house = hall.house
            walk = some_round(chance, house, chance.randint(0, 4), room=0)
            times = next(times for times in range(1, 200) if lead_seat(hall, done(walk, times), seat) == seat)
            if times > 4:
                continue
            walk = done(walk, times)
            inner = into_cover(hall, seat, walk)
            index = rounds_met(hall, seat).index((0, min(round_here(hall, 0, seat))))
            self.assertEqual((inner[0], rooms_of(cover, inner)[-1]), (index, index))
            x = lead_here(hall, 0, seat)
            out = out_of_cover(hall, seat, inner)
            self.assertTrue(are_one(house, led_along(house, pulls_in(0, -x), out), walk))
            # Walks that are one go to walks that are one.
            other = put_together(walk, some_nothing_at(chance, house))
            self.assertTrue(are_one(cover, into_cover(hall, seat, other), inner))
            self.assertIs(is_nothing(cover, inner), is_nothing(house, walk))
            many += len(inner[2]) > 0 and cover.rooms > 1 and x > 0
        self.assertGreater(many, 30)

    def test_out_and_in_again(self):
        for chance, hall, seat, cover in some_covered(174, 150):
            index = rounds_met(hall, seat).index((0, min(round_here(hall, 0, seat))))
            walk = some_round(chance, cover, 4, room=index)
            x = lead_here(hall, 0, seat)
            out = led_along(hall.house, pulls_in(0, -x), out_of_cover(hall, seat, walk))
            self.assertEqual(lead_seat(hall, out, seat), seat)
            self.assertTrue(are_one(cover, into_cover(hall, seat, out), walk))

    def test_by_hand(self):
        hall = Hall(LINE, ((1, 0, 3, 2, 5, 4), (1, 2, 0, 4, 5, 3)), ((0, 3, 1, 4, 2, 5),))
        # Seat 3 of room 0 has the lead 1 in its round, to which door 3 of the cover, (1, 1, 4, 1), leads on.
        self.assertEqual(out_of_cover(hall, 0, (1, (2, 0), ((3, 0),))), (0, (5, -1), ((0, 0),)))
        self.assertEqual(out_of_cover(hall, 0, (4, (0, 2), ((3, 1),))), (1, (1, 3), ((0, 1),)))
        self.assertEqual(out_of_cover(hall, 0, (3, (-7,), ())), (1, (-21,), ()))
        self.assertEqual(into_cover(hall, 0, pulls_in(0, HUGE - 1)), pulls_in(0, (HUGE - 1) // 2))
        self.assertEqual(into_cover(hall, 3, pulls_in(0, -4)), pulls_in(1, -2))

    def test_errors(self):
        hall = hall_of_returns(LINE, (2, 3))
        for thing in ODD + ((5, (0,), ()), (0, (0, 0), ((6, 0),)), (0, (True,), ()), [0, (0,), ()]):
            with self.assertRaises(BadWalk):
                out_of_cover(hall, 0, thing)
        for thing in ODD + ((2, (0,), ()), (0, (0, 0), ((1, 0),)), (0, (True,), ()), [0, (0,), ()]):
            with self.assertRaises(BadWalk):
                into_cover(hall, 0, thing)
        with self.assertRaises(NotHome):
            into_cover(hall, 0, bare(0, [(0, 0)]))
        for walk in (pulls_in(1, 1), pulls_in(1, 0)):
            with self.assertRaises(Elsewhere):
                into_cover(hall, 0, walk)
        for pulls in (1, -1, 3):
            with self.assertRaises(NotWithin):
                into_cover(hall, 0, pulls_in(0, pulls))
        seats = tuple(range(13))
        wide = Hall(PAIR, (seats, seats), (seats, seats[1:] + (0,)))
        for walk, error in ((bare(0, [(0, 0)]), NotHome), (pulls_in(1, 0), Elsewhere), (pulls_in(0, 1), TooMany),
                            (bare(0, [(0, 0), (1, 0), (0, 1)]), NotWithin)):
            with self.assertRaises(error):
                into_cover(wide, 0, walk)


def some_nothing_at(chance, house):
    """A walk left to chance that begins in room 0 and is nothing."""
    while True:
        walk = some_nothing(chance, house, chance.choice((0, 2, 4)))
        if walk[0] == 0:
            return walk


class PlainCover(unittest.TestCase):
    def judged(self, house):
        """Judges plain_cover; tells what it is: None, "many" or a Hall."""
        kept = kept_pulls(house)
        if stretching_walk(house) is not None:
            self.assertIsNone(plain_cover(house))
            return None
        if lcm(*kept) > 5000:
            with self.assertRaises(TooMany) as caught:
                plain_cover(house)
            self.assertEqual(caught.exception.most, 5000)
            return "many"
        hall = plain_cover(house)
        self.assertEqual(hall.house, house)
        for near, first, far, second in house.doors:
            for room, number in ((near, first), (far, second)):
                self.assertTrue(all(len(seats) % number == 0 for seats in rounds_here(hall.ropes[room])))
        return hall

    def test_by_the_lengths_of_rounds(self):
        told, covers = [], 0
        chance = random.Random(175)
        for _ in range(120):
            house = measured_house(chance)
            told.append(self.judged(house))
            if isinstance(told[-1], Hall) and told[-1].seats < 50:
                for seat in (0, told[-1].seats - 1):
                    rooms, doors = cover_here(told[-1], seat)
                    self.assertEqual({abs(number) for door in doors for number in door[1::2]} - {1}, set())
                    covers += len(doors) > 0
        for _, house in houses_by_chance(176, 80, most_rooms=3):
            told.append(self.judged(house))
        self.assertGreater(min(told.count(None), covers), 30)

    def test_five_thousand_seats_and_more(self):
        self.assertEqual(self.judged(House(2, ((0, 8, 1, 625),))).seats, 5000)
        self.assertEqual(self.judged(House(2, ((0, 9, 1, 556),))), "many")
        self.assertEqual(self.judged(House(2, ((0, 3, 1, 3), (0, -3, 1, 3)))).seats, 3)
        self.assertIsNotNone(turning_walk(House(2, ((0, 3, 1, 3), (0, -3, 1, 3)))))
        self.assertEqual(self.judged(ALONE).seats, 1)
        for house in (SINGLE, PAIR, RING, House(2, ((0, 9, 1, 556), (0, 9, 1, 557)))):
            self.assertIsNone(plain_cover(house))
        for thing in ODD:
            if thing is not SINGLE:
                with self.assertRaises(BadHouse):
                    plain_cover(thing)


if __name__ == "__main__":
    unittest.main()
