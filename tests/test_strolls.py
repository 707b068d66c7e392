"""[100] to [102] Strolls: deeds, places and moments, seats."""

import unittest

from pulledrooms.errors import BadHall, BadHouse, BadMoment, BadNumber, BadPass, BadRoom, BadSeat, NoDeed, TooMany
from pulledrooms.forms import are_one, is_nothing, plain_form
from pulledrooms.halls import Hall, led_seat
from pulledrooms.houses import House
from pulledrooms.shows import hall_for
from pulledrooms.strolls import Stroll
from pulledrooms.wide import is_dead
from tests.helper import (ALONE, HUGE, NO_NUMBERS, ODD, PAIR, SINGLE, all_passes, bare, ends, houses_by_chance,
                          lead_seat, put_together, rooms_of, some_hall, turned_back)

EXAMPLE = (("pull", 4), ("go", (0, 0)), ("pull", -6), ("go", (0, 1)))


def do(stroll, deed):
    if deed[0] == "pull":
        stroll.pull(deed[1])
    else:
        stroll.go(deed[1])


def stroll_by(house, room, deeds):
    stroll = Stroll(house, room)
    for deed in deeds:
        do(stroll, deed)
    return stroll


def walk_of(start, deeds):
    """The walk of the deeds."""
    pulls, steps = [0], []
    for word, what in deeds:
        if word == "pull":
            pulls[-1] += what
        else:
            steps.append(what)
            pulls.append(0)
    return start, tuple(pulls), tuple(steps)


def some_deeds(chance, house, room, many):
    """Deeds left to chance, which often lead back to a place."""
    deeds, here = [], room
    for _ in range(many):
        kind = chance.random()
        steps = [step for step in all_passes(house) if ends(house, step)[0] == here]
        gone = [what for word, what in deeds if word == "go"]
        if kind < 0.45 or not steps:
            deeds.append(("pull", chance.choice((0, 1, -1, 2, 3, -6))))
            continue
        step = chance.choice(steps)
        if gone and kind > 0.65:
            step = (gone[-1][0], 1 - gone[-1][1])
        deeds.append(("go", step))
        here = ends(house, step)[2]
    return deeds


def some_strolls(seed, many, most=14):
    """So many tuples (chance, house, start, deeds, stroll)."""
    found = []
    for chance, house in houses_by_chance(seed, many, numbers=(1, 2, 3), most_rooms=3, most_more=2):
        start = chance.randrange(house.rooms)
        deeds = some_deeds(chance, house, start, chance.randint(0, most))
        found.append((chance, house, start, deeds, stroll_by(house, start, deeds)))
    return found


class Deeds(unittest.TestCase):
    def judged(self, stroll, house, start, deeds):
        """Judges all that is told of a stroll with these deeds."""
        walk = walk_of(start, deeds)
        self.assertEqual((stroll.house, stroll.start), (house, start))
        self.assertEqual(stroll.deeds(), list(deeds))
        self.assertEqual(len(stroll), len(deeds))
        self.assertEqual(stroll.so_far(), walk)
        self.assertEqual(stroll.here(), rooms_of(house, walk)[-1])
        self.assertEqual(stroll.plain(), plain_form(house, walk))
        self.assertEqual(stroll.away(), len(plain_form(house, walk)[2]))
        self.assertIs(stroll.is_back(), is_nothing(house, walk))
        self.assertEqual(stroll, stroll_by(house, start, deeds))

    def test_deeds_and_refused_ones(self):
        back = 0
        for chance, house, start, deeds, stroll in some_strolls(190, 250):
            self.judged(stroll, house, start, deeds)
            back += stroll.is_back() and len(stroll.so_far()[2]) > 0
            for odd in NO_NUMBERS:
                with self.assertRaises(BadNumber):
                    stroll.pull(odd)
            elsewhere = [step for step in all_passes(house) if ends(house, step)[0] != stroll.here()]
            for odd in ODD[:12] + ((0, 2), (20, 0), (0, True), [0, 0]) + tuple(elsewhere):
                with self.assertRaises(BadPass):
                    stroll.go(odd)
            with self.assertRaises(NoDeed):
                stroll.redo()
            self.judged(stroll, house, start, deeds)
        self.assertGreater(back, 5)

    def test_undo_and_redo(self):
        refused = 0
        for chance, house, start, _, _ in some_strolls(191, 120):
            stroll, deeds, undone = Stroll(house, start), [], []
            for _ in range(40):
                kind = chance.random()
                if kind < 0.3:
                    if deeds:
                        self.assertIsNone(stroll.undo())
                        undone.append(deeds.pop())
                    else:
                        with self.assertRaises(NoDeed):
                            stroll.undo()
                elif kind < 0.55:
                    if undone:
                        self.assertIsNone(stroll.redo())
                        deeds.append(undone.pop())
                    else:
                        with self.assertRaises(NoDeed):
                            stroll.redo()
                elif kind < 0.75:
                    # What is refused leaves what can be done again.
                    for odd, wrong, error in ((stroll.pull, "1", BadNumber), (stroll.go, (0, 2), BadPass)):
                        with self.assertRaises(error):
                            odd(wrong)
                        refused += len(undone) > 0
                else:
                    deed = some_deeds(chance, house, rooms_of(house, walk_of(start, deeds))[-1], 1)[0]
                    do(stroll, deed)
                    deeds.append(deed)
                    undone = []
                self.judged(stroll, house, start, deeds)
        self.assertGreater(refused, 100)

    def test_example(self):
        stroll = stroll_by(SINGLE, 0, EXAMPLE)
        self.judged(stroll, SINGLE, 0, EXAMPLE)
        self.assertEqual(stroll.so_far(), (0, (4, -6, 0), ((0, 0), (0, 1))))
        self.assertIs(stroll.is_back(), True)
        self.assertEqual((stroll.met(4), stroll.here(), stroll.away()), ([0, 4], 0, 0))

    def test_a_stroll_along_each_pass(self):
        for step in all_passes(PAIR):
            stroll = Stroll(PAIR, ends(PAIR, step)[0])
            stroll.go(step)
            self.assertEqual(stroll.so_far(), bare(ends(PAIR, step)[0], [step]))
            self.assertEqual((stroll.here(), stroll.away()), (ends(PAIR, step)[2], 1))

    def test_pulls_are_added_up(self):
        stroll = Stroll(PAIR, 1)
        for times in (HUGE, HUGE, -3, 0):
            stroll.pull(times)
        self.assertEqual(stroll.so_far(), (1, (2 * HUGE - 3,), ()))
        stroll.go((1, 1))
        stroll.pull(times=5)
        stroll.go(step=(0, 1))
        self.assertEqual(stroll.so_far(), (1, (2 * HUGE - 3, 5, 0), ((1, 1), (0, 1))))
        self.assertEqual(stroll.deeds()[4:], [("go", (1, 1)), ("pull", 5), ("go", (0, 1))])

    def test_sixty_passes_and_more(self):
        stroll = Stroll(SINGLE, 0)
        for at in range(60):
            stroll.go((0, at % 2))
            stroll.pull(at)
        for _ in range(2):
            with self.assertRaises(TooMany) as caught:
                stroll.go((0, 0))
            self.assertEqual(caught.exception.most, 60)
        with self.assertRaises(BadPass):
            stroll.go((1, 0))
        stroll.pull(7)
        self.assertEqual(len(stroll), 121)
        # Behind an undo there is place for one pass, but what is done again counts.
        stroll.undo()
        with self.assertRaises(TooMany):
            stroll.go((0, 0))
        stroll.undo()
        stroll.undo()
        self.assertEqual(len(stroll.so_far()[2]), 59)
        stroll.redo()
        with self.assertRaises(TooMany):
            stroll.go((0, 0))
        stroll.redo()
        stroll.redo()
        self.assertEqual(len(stroll), 121)
        for _ in range(3):
            stroll.undo()
        stroll.go((0, 0))
        with self.assertRaises(TooMany):
            stroll.go((0, 0))

    def test_copies(self):
        for chance, house, start, deeds, stroll in some_strolls(192, 80):
            many = chance.randint(0, len(deeds))
            for _ in range(many):
                stroll.undo()
            other = stroll.copy()
            self.judged(other, house, start, deeds[:len(deeds) - many])
            self.assertEqual(other, stroll)
            for _ in range(many):
                other.redo()
            self.assertEqual(other.deeds(), deeds)
            self.assertEqual(len(stroll), len(deeds) - many)
            stroll.pull(5)
            self.assertEqual(other.deeds(), deeds)
            with self.assertRaises(NoDeed):
                stroll.redo()
            other.pull(6)
            if many:
                self.assertFalse(other == stroll)
            third = stroll.copy()
            third.undo()
            self.assertEqual(len(stroll), len(deeds) - many + 1)
            with self.assertRaises(NoDeed):
                stroll.redo()
            third.redo()
            self.assertEqual(third, stroll)

    def test_equality(self):
        stroll = stroll_by(PAIR, 0, (("pull", 2), ("go", (0, 0))))
        self.assertEqual(stroll, stroll_by(House(2, PAIR.doors), 0, (("pull", 2), ("go", (0, 0)))))
        other = stroll.copy()
        other.pull(1)
        self.assertNotEqual(stroll, other)
        other.undo()
        # What is left to be done again makes no difference.
        self.assertEqual(stroll, other)
        for thing in (stroll_by(PAIR, 0, (("pull", 1), ("pull", 1), ("go", (0, 0)))), Stroll(PAIR, 1), Stroll(PAIR, 0),
                      stroll_by(House(2, ((0, 2, 1, 3),)), 0, (("pull", 2), ("go", (0, 0)))), PAIR, None, 2, "stroll",
                      stroll.deeds(), [], stroll.so_far()):
            self.assertTrue(stroll != thing and thing != stroll)
            self.assertFalse(stroll == thing or thing == stroll)
        self.assertNotEqual(Stroll(PAIR, 1), Stroll(PAIR, 0))

    def test_lists_that_are_told_are_new(self):
        stroll = stroll_by(SINGLE, 0, EXAMPLE)
        hall = Hall(SINGLE, ((0,),), ((0,),))
        for asked in (stroll.deeds, stroll.round_trips, lambda: stroll.met(4), lambda: stroll.seats_met(hall, 0)):
            told = asked()
            wanted = list(told)
            self.assertIsInstance(told, list)
            told.append("spoilt")
            del told[0]
            self.assertEqual(asked(), wanted)
        self.judged(stroll, SINGLE, 0, EXAMPLE)

    def test_errors(self):
        for thing in ODD:
            if thing is not SINGLE:
                with self.assertRaises(BadHouse):
                    Stroll(thing, None)
        for thing in NO_NUMBERS + (-1, 2):
            with self.assertRaises(BadRoom):
                Stroll(PAIR, thing)
        stroll = Stroll(room=1, house=PAIR)
        self.assertEqual((stroll.house, stroll.start, stroll.deeds()), (PAIR, 1, []))
        for asked in (stroll.undo, stroll.redo):
            with self.assertRaises(NoDeed):
                asked()
        self.assertIsNone(stroll.pull(0))
        self.assertIsNone(stroll.go((1, 0)))


class Moments(unittest.TestCase):
    def test_every_question_at_every_moment(self):
        met = 0
        for chance, house, start, deeds, stroll in some_strolls(193, 200):
            walks = [walk_of(start, deeds[:moment]) for moment in range(len(deeds) + 1)]
            places = [plain_form(house, walk) for walk in walks]
            for moment, walk in enumerate(walks):
                self.assertEqual(stroll.place_at(moment), places[moment])
                same = [at for at, other in enumerate(walks) if are_one(house, other, walk)]
                self.assertEqual(stroll.met(moment), same)
                way = stroll.way_to(moment)
                self.assertEqual(way, plain_form(house, put_together(turned_back(house, walks[-1]), walk)))
                self.assertTrue(are_one(house, put_together(walks[-1], way), walk))
                met += len(same) > 1
            self.assertEqual(stroll.first_here(), stroll.met(len(deeds))[0])
            passes = [len(place[2]) for place in places]
            self.assertEqual(stroll.farthest(), (passes.index(max(passes)), max(passes)))
            trips = [(m, n) for m in range(len(places)) for n in range(m + 1, len(places))
                     if places[m] == places[n] and places[m] not in places[m + 1:n]]
            self.assertEqual(stroll.round_trips(), trips)
            self.assertEqual(stroll.deeds(), deeds)
            for m, n in trips:
                self.assertEqual(sum(word == "go" for word, _ in deeds[m:n]) % 2, 0)
            for (word, _), here, there in zip(deeds, passes, passes[1:]):
                self.assertEqual(abs(here - there), word == "go")
        self.assertGreater(met, 300)

    def test_by_hand(self):
        stroll = stroll_by(SINGLE, 0, EXAMPLE + (("go", (0, 0)), ("pull", 0), ("go", (0, 0)), ("go", (0, 1))))
        # Moments 2 and 5: four pulls are carried over the pass as six, so that six back lead to where it led at first.
        self.assertEqual([stroll.place_at(moment) for moment in range(5)],
                         [(0, (0,), ()), (0, (4,), ()), (0, (0, 6), ((0, 0),)), (0, (0, 0), ((0, 0),)), (0, (0,), ())])
        self.assertEqual(stroll.met(0), [0, 4])
        self.assertEqual(stroll.met(3), [3, 5, 6, 8])
        self.assertEqual(stroll.round_trips(), [(0, 4), (3, 5), (5, 6), (6, 8)])
        self.assertEqual(stroll.first_here(), 3)
        self.assertEqual(stroll.farthest(), (7, 2))
        self.assertEqual(stroll.way_to(1), (0, (0, 4), ((0, 1),)))
        self.assertEqual(stroll.way_to(8), (0, (0,), ()))
        self.assertEqual(Stroll(SINGLE, 0).farthest(), (0, 0))
        self.assertEqual(Stroll(SINGLE, 0).round_trips(), [])
        self.assertEqual(Stroll(SINGLE, 0).met(0), [0])

    def test_a_long_way(self):
        stroll = Stroll(SINGLE, 0)
        for _ in range(60):
            stroll.go((0, 0))
        stroll.pull(1)
        way = stroll.way_to(0)
        self.assertEqual(way, plain_form(SINGLE, (0, (-1,) + (0,) * 60, ((0, 1),) * 60)))
        self.assertTrue(is_nothing(SINGLE, put_together(stroll.so_far(), way)))
        self.assertEqual(stroll.farthest(), (60, 60))
        # There and back again it has passed sixty doors, and from there to the farthest moment it is thirty.
        stroll = stroll_by(SINGLE, 0, [("go", (0, 0))] * 30 + [("pull", 1)] + [("go", (0, 1))] * 30)
        self.assertEqual([len(stroll.way_to(moment)[2]) for moment in (0, 30, 31, 61)], [60, 30, 30, 0])

    def test_wrong_moments(self):
        stroll = stroll_by(SINGLE, 0, EXAMPLE)
        stroll.undo()
        for asked in (stroll.place_at, stroll.met, stroll.way_to):
            for moment in NO_NUMBERS + (-1, 4, HUGE):
                with self.assertRaises(BadMoment):
                    asked(moment)
            asked(moment=3)
            asked(0)


class Seats(unittest.TestCase):
    def test_seats_at_all_moments(self):
        for chance, house, start, deeds, stroll in some_strolls(194, 120):
            hall = some_hall(chance, house)
            seat = chance.randrange(hall.seats)
            walks = [walk_of(start, deeds[:moment]) for moment in range(len(deeds) + 1)]
            seats = [lead_seat(hall, walk, seat) for walk in walks]
            self.assertEqual(stroll.seats_met(hall, seat), seats)
            self.assertEqual(stroll.seat_of(hall, seat), seats[-1])
            for m, n in stroll.round_trips():
                self.assertEqual(seats[m], seats[n])

    def test_unlike_places_are_shown_by_a_hall(self):
        shown = 0
        for _, house, start, deeds, stroll in some_strolls(195, 60, most=5):
            moment = next((m for m in range(len(deeds)) if len(stroll.met(m)) == 1), None)
            if moment is None:
                continue
            walk = put_together(turned_back(house, walk_of(start, deeds[:moment])), stroll.so_far())
            if walk[0] == rooms_of(house, walk)[-1] and not is_nothing(house, walk) and not is_dead(house, walk):
                hall = hall_for(house, walk)
                self.assertTrue(any(led_seat(hall, walk, seat) != seat for seat in range(hall.seats)))
                self.assertTrue(any(stroll.seats_met(hall, seat)[moment] != stroll.seat_of(hall, seat)
                                    for seat in range(hall.seats)))
                shown += 1
        self.assertGreater(shown, 12)

    def test_many_digits_and_errors(self):
        hall = Hall(ALONE, ((1, 2, 0),), ())
        stroll = Stroll(ALONE, 0)
        stroll.pull(HUGE + 1)
        self.assertEqual(stroll.seat_of(hall, 2), 0)
        self.assertEqual(stroll.seats_met(seat=1, hall=hall), [1, 2])
        for asked in (stroll.seat_of, stroll.seats_met):
            for thing in ODD + (ALONE, hall.ropes, Hall(SINGLE, ((0,),), ((0,),))):
                with self.assertRaises(BadHall):
                    asked(thing, None)
            for thing in NO_NUMBERS + (-1, 3, HUGE):
                with self.assertRaises(BadSeat):
                    asked(hall, thing)
        self.assertEqual(stroll.deeds(), [("pull", HUGE + 1)])


if __name__ == "__main__":
    unittest.main()
