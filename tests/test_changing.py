"""[2] (i), [90] to [93] Houses changed, and walks and halls that go along."""

import random
import unittest

from pulledrooms.changing import (along, along_back, along_by, changed, changed_by, folded_away, hall_along, is_change,
                                  room_along, single_alike)
from pulledrooms.cores import steps_of
from pulledrooms.errors import BadChange, BadChanges, BadHall, BadHouse, BadRoom, BadSingle, BadWalk
from pulledrooms.forms import are_one, is_nothing
from pulledrooms.halls import Hall, led_seat
from pulledrooms.houses import House
from pulledrooms.ratios import lengths_of, ratio_of, signs_of
from pulledrooms.returns import bounded_primes
from pulledrooms.shows import is_rising
from pulledrooms.walks import is_walk
from pulledrooms.wide import is_dead
from tests.helper import (ALONE, HUGE, NO_NUMBERS, ODD, PAIR, RING, SINGLE, all_passes, bare, ends, houses_by_chance,
                          lead_seat, pull_all, pulls_in, put_together, rooms_of, some_hall, some_nothing, some_round,
                          some_walk, turned_back)

EXAMPLE = House(2, ((0, 2, 1, 1), (1, 3, 0, 5)))
WORDS = ("fold", "slide", "turn", "put", "swap")


def gone_and_kept(house, door):
    """(gone room, kept room, m)."""
    near, first, far, second = house.doors[door]
    return (far, near, first * second) if second in (1, -1) else (near, far, first * second)


def lists_of(house):
    """For each door the list of its two ends, each a list [room, number]."""
    return [[[near, first], [far, second]] for near, first, far, second in house.doors]


def changed_here(house, change):
    """(rooms, doors) of what comes of the change, end by end; None if it cannot be done."""
    word, rooms, doors = change[0], house.rooms, lists_of(house)
    if word == "fold":
        if change[1] >= len(doors) or doors[change[1]][0][0] == doors[change[1]][1][0]:
            return None
        if not {1, -1} & {doors[change[1]][0][1], doors[change[1]][1][1]}:
            return None
        gone, kept, times = gone_and_kept(house, change[1])
        del doors[change[1]]
        for end in [end for door in doors for end in door]:
            if end[0] == gone:
                end[:] = [kept, end[1] * times]
            if end[0] > gone:
                end[0] -= 1
        rooms -= 1
    if word == "slide":
        (moved, side), (over, leads) = change[1:]
        end, (room, leaving), (there, arriving) = doors[moved][side], doors[over][leads], doors[over][1 - leads]
        if moved == over or end[0] != room or end[1] % leaving != 0:
            return None
        end[:] = [there, end[1] // leaving * arriving]
    if word == "turn":
        for end in [end for door in doors for end in door]:
            if end[0] == change[1]:
                end[1] = -end[1]
    if word == "put":
        doors.append([[change[1], change[2]], [rooms, change[3]]])
        rooms += 1
    if word == "swap":
        doors[change[1]].reverse()
    told = tuple(tuple(near + far) for near, far in doors)
    fits = all(abs(number) <= 999 for door in told for number in door[1::2]) and rooms <= 12 and len(told) <= 20
    return (rooms, told) if fits else None


def told_changes(chance, house):
    """Changes of all forms, some of which cannot be done."""
    doors, rooms = range(len(house.doors)), range(house.rooms)
    found = [("fold", door) for door in doors] + [("turn", room) for room in rooms] + [("swap", door) for door in doors]
    found += [("slide", end, over) for end in all_passes(house) for over in all_passes(house)]
    for _ in range(2):
        found.append(("put", chance.choice(rooms), chance.choice((1, -1, 2, -3, 7, 999, -999)), chance.choice((1, -1))))
    return found


def some_change(chance, house, words=WORDS):
    """A change left to chance, with each word as often as can be."""
    found = {}
    for change in told_changes(chance, house):
        if changed_here(house, change) is not None:
            found.setdefault(change[0], []).append(change)
    return chance.choice(found[chance.choice([word for word in words if word in found])])


def some_changes(seed, many, words=WORDS):
    """So many triples (chance, house, change)."""
    houses = houses_by_chance(seed, many, numbers=(1, 1, 2, 3, 4), most_rooms=4, most_more=2)
    return [(chance, house, some_change(chance, house, words)) for chance, house in houses
            if words == WORDS or any(changed_here(house, change) and change[0] in words
                                     for change in told_changes(chance, house))]


def along_here(house, change, walk):
    """The walk that goes along, word by word."""
    word, found = change[0], None
    for at, pulls in enumerate(walk[1]):
        room = rooms_of(house, walk)[at]
        if word == "fold":
            gone, kept, times = gone_and_kept(house, change[1])
            room, pulls = (kept, pulls * times) if room == gone else (room, pulls)
            room -= room > gone
        if word == "turn" and room == change[1]:
            pulls = -pulls
        piece = pulls_in(room, pulls)
        found = piece if found is None else put_together(found, piece)
        if at == len(walk[2]):
            break
        door, side = walk[2][at]
        steps = [(door, side)]
        if word == "fold":
            steps = [] if door == change[1] else [(door - (door > change[1]), side)]
        if word == "slide" and (door, side) == change[1]:
            steps = [change[2], change[1]]
        if word == "slide" and (door, 1 - side) == change[1]:
            steps = [(door, side), (change[2][0], 1 - change[2][1])]
        if word == "swap" and door == change[1]:
            steps = [(door, 1 - side)]
        found = put_together(found, bare(room, steps))
    return found


class Changes(unittest.TestCase):
    def judged(self, house, change):
        """Judges is_change and changed; tells whether the change can be done."""
        told = changed_here(house, change)
        self.assertIs(is_change(house, change), told is not None, (house.rooms, house.doors, change))
        if told is None:
            with self.assertRaises(BadChange):
                changed(house, change)
            return False
        found = changed(house, change)
        self.assertIsInstance(found, House)
        self.assertEqual((found.rooms, found.doors), told)
        return True

    def test_each_word(self):
        told = []
        for chance, house in houses_by_chance(180, 120, numbers=(1, 1, 2, 3, 4, 6), most_rooms=4, most_more=3):
            for change in told_changes(chance, house):
                told.append((change[0], self.judged(house, change)))
        for kind in [(word, True) for word in WORDS] + [("fold", False), ("slide", False)]:
            self.assertGreater(told.count(kind), 50, kind)

    def test_values_that_are_near_to_a_change(self):
        chance = random.Random(181)
        for house in (PAIR, EXAMPLE, RING, SINGLE):
            for change in told_changes(chance, house):
                if not is_change(house, change):
                    continue
                self.assertIs(is_change(house, list(change)), False)
                self.assertIs(is_change(house, change + (0,)), False)
                self.assertIs(is_change(house, change[:-1]), False)
                self.assertIs(is_change(house, ("Fold",) + change[1:]), False)
                for at in range(1, len(change)):
                    for odd in NO_NUMBERS[:12] + (-1, 12, HUGE, [0, 0], (0, True), (0, 2), (20, 0)):
                        near = change[:at] + (odd,) + change[at + 1:]
                        if change[0] != "slide" or not isinstance(odd, tuple):
                            wanted = change[0] == "put" and at == 2 and odd in (-1, 12) and not isinstance(odd, bool)
                            wanted = wanted or change[0] == "put" and at == 3 and odd == -1
                            self.assertIs(is_change(house, near), wanted, near)
        for thing in ODD + ("fold", ("fold",), ("fold", 0, 0), ("put", 0, 1), ("slide", (0, 0)), ("turn", True)):
            self.assertIs(is_change(EXAMPLE, thing), False, thing)

    def test_fold(self):
        # Neither a loop nor a door without 1 and -1; numbers up to 999.
        house = House(2, ((0, 1, 0, 1), (0, 2, 1, 3), (0, 1, 1, 333), (1, 3, 1, 1)))
        self.assertEqual([self.judged(house, ("fold", door)) for door in range(4)], [False, False, True, False])
        self.assertEqual(changed(house, ("fold", 2)), House(1, ((0, 333, 0, 333), (0, 666, 0, 3), (0, 3, 0, 1))))
        for number, let in ((333, True), (334, False), (-333, True), (-334, False)):
            self.assertIs(self.judged(House(2, ((0, number, 1, 1), (1, 3, 0, 2))), ("fold", 0)), let)
            self.assertIs(self.judged(House(2, ((0, number, 1, 1), (0, 999, 0, 2))), ("fold", 0)), True)

    def test_which_room_goes(self):
        for first, second, gone in ((1, 1, 2), (-1, 1, 2), (1, -1, 2), (-1, -1, 2), (5, -1, 2), (1, 5, 0), (-1, 5, 0)):
            house = House(3, ((0, first, 2, second), (0, 2, 1, 3), (2, 5, 1, 7)))
            kept = 2 - gone
            self.assertTrue(self.judged(house, ("fold", 0)))
            self.assertEqual(room_along(house, ("fold", 0), gone), room_along(house, ("fold", 0), kept))
            self.assertEqual(room_along(house, ("fold", 0), kept), kept - (kept > gone))
            self.assertEqual(room_along(house, ("fold", 0), 1), 1 - (1 > gone))
            times = first * second
            wanted = ((0, 2, 1, 3), (0, 5 * times, 1, 7)) if gone == 2 else ((1, 2 * times, 0, 3), (1, 5, 0, 7))
            self.assertEqual(changed(house, ("fold", 0)), House(2, wanted))

    def test_slide(self):
        house = House(3, ((0, 6, 1, 5), (0, 3, 2, 7), (0, 4, 2, 1), (0, -2, 0, 3)))
        self.assertEqual(changed(house, ("slide", (0, 0), (1, 0))).doors[0], (2, 14, 1, 5))
        self.assertEqual(changed(house, ("slide", (0, 0), (3, 0))).doors[0], (0, -9, 1, 5))
        self.assertEqual(changed(house, ("slide", (0, 0), (3, 1))).doors[0], (0, -4, 1, 5))
        self.assertEqual(changed(house, ("slide", (3, 1), (1, 0))).doors[3], (0, -2, 2, 7))
        self.assertEqual(changed(house, ("slide", (1, 1), (2, 1))).doors[1], (0, 3, 0, 28))
        for change in (("slide", (0, 0), (2, 0)), ("slide", (1, 0), (0, 0)), ("slide", (0, 0), (0, 0)),
                       ("slide", (0, 1), (1, 0)), ("slide", (0, 1), (0, 0)), ("slide", (3, 0), (3, 1)),
                       ("slide", (2, 1), (1, 1))):
            self.assertFalse(self.judged(house, change))
        self.assertFalse(self.judged(EXAMPLE, ("slide", (0, 0), (1, 1))))
        for number, let in ((499, True), (500, False)):
            self.assertIs(self.judged(House(2, ((0, number, 0, 7), (0, 1, 1, -2))), ("slide", (0, 0), (1, 0))), let)

    def test_twelve_rooms_and_twenty_doors(self):
        line = tuple((0, 1, room, 1) for room in range(1, 12))
        self.assertTrue(self.judged(House(11, line[:10]), ("put", 10, 999, -1)))
        self.assertFalse(self.judged(House(12, line), ("put", 10, 2, -1)))
        self.assertTrue(self.judged(House(1, ((0, 1, 0, 1),) * 19), ("put", 0, -999, 1)))
        self.assertFalse(self.judged(House(1, ((0, 1, 0, 1),) * 20), ("put", 0, 2, 1)))
        for change in (("put", 0, 1000, 1), ("put", 0, -1000, 1), ("put", 0, 0, 1), ("put", 0, 1, 0), ("put", 0, 1, 2),
                       ("put", 2, 1, 1), ("put", 0, 1, True), ("put", 0, True, 1), ("put", False, 1, 1)):
            self.assertIs(is_change(EXAMPLE, change), False, change)

    def test_room_along(self):
        for chance, house, change in some_changes(182, 100):
            for room in range(house.rooms):
                wanted = room
                if change[0] == "fold":
                    gone, kept, _ = gone_and_kept(house, change[1])
                    wanted = kept if room == gone else room
                    wanted -= wanted > gone
                self.assertEqual(room_along(house, change, room), wanted)
        for thing in NO_NUMBERS + (-1, 2):
            with self.assertRaises(BadRoom):
                room_along(EXAMPLE, ("fold", 0), thing)

    def test_rows_of_changes(self):
        for chance, house in houses_by_chance(183, 60, numbers=(1, 1, 2, 3), most_rooms=4):
            here, changes = house, []
            for _ in range(chance.choice((0, 1, 5, 30))):
                changes.append(some_change(chance, here))
                here = House(*changed_here(here, changes[-1]))
            self.assertEqual(changed_by(house, changes), here)
            self.assertEqual(changed_by(house, tuple(changes)), here)
            walk = some_walk(chance, house, 2)
            if len(changes) < 9:
                behind, met = walk, house
                for change in changes:
                    behind, met = along_here(met, change, behind), House(*changed_here(met, change))
                self.assertEqual(along_by(house, changes, walk), behind)
            if changes:
                self.refused(house, changes[:-1] + [("turn", 12)])
                self.refused(house, [("turn", 12)] + changes[1:])
        self.assertEqual(changed_by(SINGLE, []), SINGLE)
        self.assertEqual(along_by(SINGLE, (), pulls_in(0, 7)), pulls_in(0, 7))

    def refused(self, house, changes):
        with self.assertRaises(BadChanges):
            changed_by(house, changes)
        with self.assertRaises(BadChanges):
            along_by(house, changes, None)

    def test_thirty_changes_and_more(self):
        turns = [("turn", 0), ("swap", 0)] * 15
        self.assertEqual(changed_by(SINGLE, turns), House(1, ((0, -3, 0, -2),)))
        self.assertEqual(along_by(SINGLE, turns, (0, (1, 2), ((0, 0),))), (0, (-1, -2), ((0, 1),)))
        self.refused(SINGLE, turns + [("turn", 0)])
        # Each change is one of what the one before leads to.
        self.refused(SINGLE, [("fold", 1), ("put", 0, 1, 1)])
        self.assertEqual(changed_by(SINGLE, [("put", 0, 1, 1), ("fold", 1)]), SINGLE)
        self.refused(EXAMPLE, [("fold", 0), ("fold", 0)])
        for thing in ODD + (("turn", 0), [["turn", 0]], {("turn", 0): 1}, "turn"):
            if thing not in ([], ()):
                self.refused(EXAMPLE, thing)

    def test_errors(self):
        for asked, more in ((changed, ()), (room_along, (None,)), (along, (None,)), (along_back, (None,)),
                            (hall_along, (None,))):
            for thing in ODD + (["turn", 0], ("turn", 2), ("fold", 1)):
                with self.assertRaises(BadChange):
                    asked(EXAMPLE, thing, *more)
            with self.assertRaises(BadHouse):
                asked(None, None, *more)
        for asked, more in ((is_change, (None,)), (changed_by, (None,)), (along_by, (None, None)), (folded_away, ())):
            with self.assertRaises(BadHouse):
                asked(None, *more)


class Along(unittest.TestCase):
    def test_word_by_word(self):
        many = 0
        for chance, house, change in some_changes(184, 400):
            walk = some_walk(chance, house, chance.randint(0, 7))
            behind = changed(house, change)
            found = along(house, change, walk)
            self.assertEqual(found, along_here(house, change, walk))
            self.assertTrue(is_walk(behind, found))
            rooms = rooms_of(house, walk)
            self.assertEqual((found[0], rooms_of(behind, found)[-1]),
                             (room_along(house, change, rooms[0]), room_along(house, change, rooms[-1])))
            other = some_walk(chance, house, 3, room=rooms[-1])
            self.assertEqual(along(house, change, put_together(walk, other)),
                             put_together(found, along(house, change, other)))
            self.assertEqual(along(house, change, turned_back(house, walk)), turned_back(behind, found))
            many += change[0] == "fold" and gone_and_kept(house, change[1])[0] in rooms
        self.assertGreater(many, 25)

    def test_what_stays_as_it_is(self):
        told = []
        for chance, house, change in some_changes(185, 300):
            behind = changed(house, change)
            walk = some_round(chance, house, chance.randint(0, 5))
            nothing = some_nothing(chance, house, 6)
            one, other = put_together(nothing, some_walk(chance, house, 2, room=nothing[0])), None
            other = (one[0], one[1][len(nothing[2]):], one[2][len(nothing[2]):])
            other = other if rooms_of(house, other)[-1] == rooms_of(house, one)[-1] else one
            for each in (walk, nothing):
                found = along(house, change, each)
                told.append((is_nothing(house, each), is_dead(house, each)))
                self.assertIs(is_nothing(behind, found), told[-1][0])
                self.assertIs(is_dead(behind, found), told[-1][1])
                self.assertIs(steps_of(behind, found) == 0, steps_of(house, each) == 0)
                self.assertEqual(ratio_of(behind, found), ratio_of(house, each))
                if change[0] in ("turn", "put", "swap"):
                    self.assertEqual(steps_of(behind, found), steps_of(house, each))
            self.assertIs(are_one(behind, along(house, change, one), along(house, change, other)),
                          are_one(house, one, other))
            self.assertIs(lengths_of(behind) is None, lengths_of(house) is None)
            self.assertIs(signs_of(behind) is None, signs_of(house) is None)
            self.assertIs(is_rising(behind), is_rising(house))
            self.assertEqual(bounded_primes(behind), bounded_primes(house))
        self.assertGreater(min(told.count((True, True)), told.count((False, False))), 100)

    def test_back(self):
        words = []
        for chance, house, change in some_changes(186, 500):
            behind = changed(house, change)
            walk = some_walk(chance, behind, chance.randint(0, 6))
            new = change[0] == "put" and house.rooms
            if new and new in (walk[0], rooms_of(behind, walk)[-1]):
                with self.assertRaises(BadWalk):
                    along_back(house, change, walk)
                words.append("new")
                continue
            found = along_back(house, change, walk)
            self.assertTrue(is_walk(house, found))
            self.assertTrue(are_one(behind, along(house, change, found), walk))
            words.append(change[0])
            if new and new in rooms_of(behind, walk):
                words.append("through")
            # What goes there and back is one with the walk, unless this begins or ends in a gone room.
            there = some_walk(chance, house, 4)
            gone = gone_and_kept(house, change[1])[0] if change[0] == "fold" else None
            if gone not in (there[0], rooms_of(house, there)[-1]):
                self.assertTrue(are_one(house, along_back(house, change, along(house, change, there)), there))
        for word in WORDS + ("new", "through"):
            self.assertGreater(words.count(word), 12, word)

    def test_by_hand(self):
        self.assertEqual(changed(EXAMPLE, ("fold", 0)), House(1, ((0, 6, 0, 5),)))
        self.assertEqual(along(EXAMPLE, ("fold", 0), (1, (4, 0), ((0, 1),))), (0, (8,), ()))
        self.assertEqual(along(EXAMPLE, ("fold", 0), (0, (1, 2, 3, 4), ((0, 0), (0, 1), (0, 0)))), (0, (16,), ()))
        self.assertEqual(along(EXAMPLE, ("turn", 1), (1, (4, 5, 6), ((0, 1), (0, 0)))),
                         (1, (-4, 5, -6), ((0, 1), (0, 0))))
        slide = House(3, ((0, 6, 1, 5), (0, 3, 2, 7)))
        self.assertEqual(along(slide, ("slide", (0, 0), (1, 0)), (0, (1, 2, 3), ((0, 0), (0, 1)))),
                         (0, (1, 0, 2, 0, 3), ((1, 0), (0, 0), (0, 1), (1, 1))))
        for side, second, pulls in ((0, 1, 10), (0, -1, -10)):
            walk = (0, (1, 5, 3), ((2, side), (2, 1 - side)))
            self.assertTrue(are_one(EXAMPLE, along_back(EXAMPLE, ("put", 0, 2, second), walk), pulls_in(0, 4 + pulls)))
        self.assertEqual(along(EXAMPLE, ("put", 0, 2, 1), bare(0, [(0, 0)])), bare(0, [(0, 0)]))

    def test_errors(self):
        for thing in ODD + ((2, (0,), ()), [0, (0,), ()], (0, (True,), ())):
            with self.assertRaises(BadWalk):
                along(EXAMPLE, ("turn", 0), thing)
            with self.assertRaises(BadWalk):
                along_by(EXAMPLE, [("put", 0, 1, 1)], thing)
            with self.assertRaises(BadWalk):
                along_back(EXAMPLE, ("turn", 0), thing)
        # Walks of the one house are not walks of the other one.
        with self.assertRaises(BadWalk):
            along_back(EXAMPLE, ("fold", 0), pulls_in(1, 1))
        with self.assertRaises(BadWalk):
            along(EXAMPLE, ("put", 0, 1, 1), pulls_in(2, 1))
        with self.assertRaises(BadWalk):
            along_back(EXAMPLE, ("fold", 0), bare(0, [(1, 0)]))


class HallAlong(unittest.TestCase):
    def ways_here(self, house, change, hall):
        """(ropes, ways) of the Hall that goes along, word by word."""
        word, ropes, ways = change[0], list(hall.ropes), []
        gone = gone_and_kept(house, change[1])[0] if word == "fold" else None
        for door, (near, _, far, _) in enumerate(house.doors):
            if word == "fold" and door == change[1]:
                continue
            steps = [(door, 0)]
            if word == "fold":
                leads = (change[1], 0 if house.doors[change[1]][0] == gone else 1)
                steps = [(leads[0], 1 - leads[1])] * (near == gone) + steps + [leads] * (far == gone)
            if word == "slide" and change[1] == (door, 0):
                steps = [(change[2][0], 1 - change[2][1])] + steps
            if word == "slide" and change[1] == (door, 1):
                steps = steps + [change[2]]
            if word == "swap" and change[1] == door:
                steps = [(door, 1)]
            walk = bare(ends(house, steps[0])[0], steps)
            ways.append(tuple(lead_seat(hall, walk, seat) for seat in range(hall.seats)))
        if word == "fold":
            del ropes[gone]
        if word == "turn":
            ropes[change[1]] = tuple(ropes[change[1]].index(seat) for seat in range(hall.seats))
        if word == "put":
            ropes.append(pull_all(ropes[change[1]], change[2] * change[3]))
            ways.append(tuple(range(hall.seats)))
        return tuple(ropes), tuple(ways)

    def test_seat_by_seat(self):
        words = []
        for chance, house, change in some_changes(187, 250):
            hall = some_hall(chance, house)
            found = hall_along(house, change, hall)
            self.assertEqual(found, Hall(changed(house, change), *self.ways_here(house, change, hall)))
            for _ in range(3):
                walk = some_walk(chance, house, chance.randint(0, 5))
                self.leads(house, change, hall, walk)
            words.append(change[0])
        self.assertGreater(min(words.count(word) for word in WORDS), 25)

    def leads(self, house, change, hall, walk):
        """Walks lead each seat as those do that go along, if they pass from the kept room first and to it last."""
        along_it = along(house, change, walk)
        if change[0] == "fold":
            gone, kept, _ = gone_and_kept(house, change[1])
            into = (change[1], 0 if house.doors[change[1]][0] == kept else 1)
            if walk[0] == gone:
                walk = put_together(bare(kept, [into]), walk)
            if rooms_of(house, walk)[-1] == gone:
                walk = put_together(walk, bare(gone, [(into[0], 1 - into[1])]))
        found = hall_along(house, change, hall)
        for seat in range(hall.seats):
            self.assertEqual(led_seat(found, along_it, seat), lead_seat(hall, walk, seat))

    def test_errors(self):
        hall = some_hall(random.Random(188), EXAMPLE)
        other = hall_along(EXAMPLE, ("turn", 1), hall)
        for thing in ODD + (EXAMPLE, hall.ropes, other, Hall(SINGLE, ((0,),), ((0,),))):
            with self.assertRaises(BadHall):
                hall_along(EXAMPLE, ("turn", 1), thing)


class FoldedAway(unittest.TestCase):
    def test_the_least_door_first(self):
        left = []
        for chance, house in houses_by_chance(189, 200, numbers=(1, 1, 2, 3, 40), most_rooms=6, most_more=2):
            here, changes = house, []
            while True:
                folds = [door for door in range(len(here.doors)) if changed_here(here, ("fold", door)) is not None]
                if not folds:
                    break
                changes.append(("fold", folds[0]))
                here = House(*changed_here(here, changes[-1]))
            found = folded_away(house)
            self.assertIsInstance(found, tuple)
            self.assertEqual(found, (here, changes))
            self.assertEqual(changed_by(house, changes), here)
            left.append((here.rooms == 1, len(changes) == 0))
        for kind in ((True, True), (True, False), (False, True), (False, False)):
            self.assertGreater(left.count(kind), 10, kind)

    def test_by_hand(self):
        self.assertEqual(folded_away(EXAMPLE), (House(1, ((0, 6, 0, 5),)), [("fold", 0)]))
        self.assertEqual(folded_away(House(2, ((0, 2, 1, 3),))), (House(2, ((0, 2, 1, 3),)), []))
        self.assertEqual(folded_away(ALONE), (ALONE, []))
        # Behind the first fold the numbers of the second one would be too great.
        house = House(3, ((0, 100, 1, 1), (1, 100, 2, 1), (2, 1, 2, 3)))
        self.assertEqual(folded_away(house), (House(2, ((0, 100, 1, 1), (1, 100, 1, 300))), [("fold", 1)]))
        self.assertEqual(folded_away(House(2, ((0, 999, 1, 1), (1, 2, 1, 2)))),
                         (House(2, ((0, 999, 1, 1), (1, 2, 1, 2))), []))


class SingleAlike(unittest.TestCase):
    def test_by_turning_and_swapping(self):
        told = []
        numbers = [number for number in range(-3, 4) if number != 0]
        houses = [House(1, ((0, first, 0, second),)) for first in numbers for second in numbers]
        for one in houses:
            met, waiting = [one], [one]
            while waiting:
                here = waiting.pop()
                for change in (("turn", 0), ("swap", 0)):
                    there = changed(here, change)
                    if there not in met:
                        met.append(there)
                        waiting.append(there)
            for other in houses:
                self.assertIs(single_alike(one, other), other in met)
                told.append(other in met)
        self.assertGreater(told.count(True), 100)

    def test_errors(self):
        for thing in tuple(thing for thing in ODD if thing is not SINGLE) + (
                ALONE, PAIR, House(1, SINGLE.doors * 2), House(2, ((0, 2, 1, 3),))):
            with self.assertRaises(BadSingle):
                single_alike(thing, None)
            with self.assertRaises(BadSingle):
                single_alike(SINGLE, thing)
        self.assertIs(single_alike(SINGLE, SINGLE), True)


if __name__ == "__main__":
    unittest.main()
