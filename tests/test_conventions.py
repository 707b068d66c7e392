"""[3], [5] What holds for all functions: calls by name, the order of the errors, new results."""

import copy
import unittest

from pulledrooms import (alikeness, books, changing, classes, cores, covers, errors, everyk, forms, halls, houses, lots,
                         moving, patterns, ratios, returns, roots, shows, strolls, texts, walks, weights, wide)
from tests.helper import HUGE, NO_NUMBERS, ODD, PAIR, SINGLE

WALK = (0, (1, 0, 4), ((0, 0), (0, 1)))
FAR = (0, (0, 0), ((0, 0),))
NO_HOUSES = tuple(thing for thing in ODD if thing is not SINGLE) + (houses.House, (2, PAIR.doors))
NO_ROOMS = NO_NUMBERS + (-1, 2, HUGE)
NO_WALKS = ODD + (list(WALK), (0, [1, 0, 4], WALK[2]), (0, (1, 0, 4), list(WALK[2])), (False,) + WALK[1:],
                  (0, (True, 0, 4), WALK[2]), (0, (1, 0, 4), ((0, False), (0, 1))), (0, (1, 0), WALK[2]), (2, (0,), ()))
NO_PASSES = tuple(thing for thing in ODD if thing != (0, 1)) + ((0, True), (0, 2), (2, 0), [0, 1])
NO_STRINGS = tuple(thing for thing in ODD if not isinstance(thing, str))
NO_TIMES = NO_NUMBERS + (10, -10)
BARE = (0, (0, 0, 0), WALK[2])
NO_SPOTS = NO_NUMBERS + (-1, 2, HUGE)
NO_MOVES = ODD + (["cancel", 0], ("cancel", False), ("carry", 0, True), ("put", 3, (0, 0), 0))
PRIMES = (2, 3, 5, 7, 11, 13, 17, 19, 23, 29, 31, 37, 41)
THIRTEEN = houses.House(1, tuple((0, prime, 0, 1) for prime in PRIMES))

HOUSE = ("house", PAIR, errors.BadHouse, NO_HOUSES)
ROOM = ("room", 1, errors.BadRoom, NO_ROOMS)
WALKED = ("walk", WALK, errors.BadWalk, NO_WALKS)
ROUND = ("walk", WALK, errors.NotHome, (FAR,))
ONE = ("one", WALK, errors.BadWalk, NO_WALKS)
OTHER = ("other", WALK, errors.BadWalk, NO_WALKS)
THING = ("thing", WALK, None, ())
JUDGED = [("thing", right, None, ()) for right in (
    [0], [("cancel", 0)], BARE, (3, 2), (1, 1), ({2: 1, 3: 1}, (0, 0)), [(BARE, 1)])]
SPOTS, MOVES, CORE, LENGTHS, SIGNS, WEIGHTS, GROWTH = JUDGED
FEW = ("house", PAIR, errors.TooMany, (THIRTEEN,))
NO_STATES = tuple(thing for thing in ODD if thing != (0, 1)) + ((0, 0), (2, 1), (0, True), (False, 1), [0, 1])
STATE = ("state", (0, 12), errors.BadState, NO_STATES)
OTHER_STATE = ("other", (1, 18), errors.BadState, NO_STATES)
FEW_DOORS = ("house", PAIR, errors.TooMany, (houses.House(2, PAIR.doors * 2 + ((0, 1, 0, 1),)),))
BOOK = books.book_of(PAIR)
WAY, RULE, BOOK_JUDGED = [("thing", right, None, ()) for right in (((0, 0),), BOOK[0], BOOK)]
ROWS = [(0, 4), (2, 4), (3, 0)]
NO_ROWS = tuple(thing for thing in ODD if thing not in ([], ())) + ((0, 4), [(4, 4)], [[0, 4]], [(True, 4)], [(0, 1)] * 201)
ROWS_TOLD = ("rows", ROWS, errors.BadRows, NO_ROWS)
MORE_ROWS = ("more", [(0, 3), (3, 6)], errors.BadRows, NO_ROWS)
NUMBER = ("number", -7, errors.BadNumber, NO_NUMBERS)
PATTERN = (0, ((0, 0), (1, 0), (0, -3)), WALK[2])
NO_PATTERNS = ODD + (WALK, list(PATTERN), (0, ((0, 0), [1, 0], (0, -3)), WALK[2]), (False,) + PATTERN[1:],
                     (0, ((0, 0), (1, 1000), (0, -3)), WALK[2]), (0, ((0, 0),) * 11, WALK[2] * 5))
PATTERNED = ("pattern", PATTERN, errors.BadPattern, NO_PATTERNS)
HOME_PATTERN = ("pattern", PATTERN, errors.NotHome, ((0, ((0, 0), (1, 0)), WALK[2][:1]),))
DOUBLE = houses.House(1, ((0, 1, 0, 2),))
HALL = halls.Hall(DOUBLE, ((1, 2, 0),), ((0, 2, 1),))
HALLED = ("hall", HALL, errors.BadHall, ODD + (DOUBLE, HALL.ropes, halls.Hall))
SEAT = ("seat", 2, errors.BadSeat, NO_NUMBERS + (-1, 3, HUGE))
OTHER_HALL = ("other", halls.Hall(DOUBLE, ((0,),), ((0,),)), errors.BadHall, ODD)
HALL_WALK = ("walk", (0, (HUGE, 0, 4), ((0, 0), (0, 1))), errors.BadWalk, NO_WALKS + ((0, (0, 0), ((1, 0),)),))
HALL_PATTERN = ("pattern", PATTERN, errors.BadPattern, NO_PATTERNS + ((1, ((0, 0),), ()),))
FIVE_PASSES = (0, ((1, 0),) * 6, ((0, 0),) * 2 + ((0, 1),) * 3)
DEEP = houses.House(1, ((0, 4, 0, 6),))
DEEP_HOUSE = ("house", DEEP, errors.BadHouse, NO_HOUSES)
WIDE = (0, ((0, 1), (1, (3, 2)), (0, 0)), ((0, 0), (0, 1)))
NO_WIDE = ODD + (WALK, list(WIDE), (0, ((0, 1), (2, 1), (0, 0)), WIDE[2]), (0, ((0, 1), (0, (2, 4)), (0, 0)), WIDE[2]))
WIDE_TOLD = ("wide", (0, ((0, 1), (0, (9, 2)), (0, 0)), WIDE[2]), errors.BadWide, NO_WIDE)
FITTING, SPOTS_JUDGED = [("thing", right, None, ()) for right in ((5,), [0, 0])]
OTHER_PATTERN = ("other", (0, ((1, -3),), ()), errors.BadPattern, NO_PATTERNS)
HOME_ONE, HOME_OTHER = [(name, WALK, errors.NotHome, (FAR,)) for name in ("one", "other")]
UNLIKE_ROOM = ("other", WALK, errors.Elsewhere, ((1, (0,), ()),))
GOING = (1, (0, 0, 0), ((1, 0), (1, 0)))
GOES = [("walk", GOING, errors.BadWalk, NO_WALKS), ("walk", GOING, errors.NotHome, (FAR,)),
        ("walk", GOING, errors.Keeps, (WALK, (0, (0,), ())))]
MANY = ("many", 2, errors.BadMany, NO_NUMBERS + (0, 1, 10, HUGE))
PAIR_HALL = returns.hall_of_returns(PAIR, (10, 5))
PAIR_HALLED = ("hall", PAIR_HALL, errors.BadHall, ODD + (PAIR, PAIR_HALL.ropes, halls.Hall))
NO_SEATS = NO_NUMBERS + (-1, 10, HUGE)
PAIR_SEAT = ("seat", 2, errors.BadSeat, NO_SEATS)
OTHER_PAIR_HALL = ("other", halls.halls_beside(PAIR_HALL, PAIR_HALL), errors.BadHall, ODD)
UNLIKE_HALL = ("other", PAIR_HALL, errors.Elsewhere, (HALL,))
TWELVE = houses.House(12, tuple((0, 1, room, 1) for room in range(1, 12)))
WIDE_HALL = halls.Hall(DOUBLE, (tuple(range(1667)),), (tuple(range(1667)),))
SEATS = tuple(range(10))
MANY_ROUNDS = halls.Hall(PAIR, (SEATS, SEATS), (SEATS, SEATS[1:] + (0,)))
WIDE_COVER = ("hall", PAIR_HALL, errors.TooMany, (MANY_ROUNDS,))
COVERED = (0, (6, 0, 4), WALK[2])
NO_COVER_WALKS = ODD + ((3, (0,), ()), (0, (1,), ((0, 0),)), list(WALK), (False,) + WALK[1:])
CHANGE = ("change", ("turn", 1), errors.BadChange, ODD + (["turn", 1], ("turn", 2), ("turn", True), ("fold", 0)))
CHANGES = ("changes", [("swap", 0), ("turn", 1)], errors.BadChanges,
           ODD[:6] + (("turn", 1), [["turn", 1]], [("turn", 2)], [("turn", 0)] * 31))
NO_SINGLES = NO_HOUSES + (PAIR, houses.House(1, ()))

# A function and, for each parameter from left to right, its name, a right value, the error for wrong ones, wrong ones.
# A parameter that has two errors stands there twice.
CALLS = [
    (houses.House, [("rooms", 2, errors.BadRooms, NO_NUMBERS + (0, 13)),
                    ("doors", PAIR.doors, errors.BadDoors, NO_NUMBERS[:3] + ([], (0,), list(PAIR.doors)))]),
    (houses.passes_from, [HOUSE, ROOM]),
    (houses.numbers_of, [HOUSE, ("thing", (0, 1), errors.BadPass, NO_PASSES)]),
    (walks.is_walk, [HOUSE, THING]),
    (walks.end_of, [HOUSE, WALKED]),
    (walks.comes_home, [HOUSE, WALKED]),
    (walks.joined, [HOUSE, ONE, OTHER, ("other", WALK, errors.Elsewhere, ((1, (0,), ()),))]),
    (walks.back, [HOUSE, WALKED]),
    (walks.standing, [HOUSE, ROOM]),
    (walks.power, [HOUSE, WALKED, ROUND, ("times", -2, errors.BadTimes, NO_TIMES)]),
    (texts.house_text, [HOUSE]),
    (texts.read_house, [("text", "rooms 1\ndoor 0 2 0 3\n", errors.BadText, NO_STRINGS + ("", "rooms 0"))]),
    (texts.walks_text, [HOUSE, ("walks", [WALK, FAR], errors.BadWalks,
                                NO_NUMBERS[:6] + ([WALK, None], {0: WALK}, WALK, [list(WALK)]))]),
    (texts.read_walks, [HOUSE, ("text", "0 1 0> 0\n1 2\n", errors.BadText, NO_STRINGS + ("0", "0 True"))]),
    (forms.carried, [HOUSE, WALKED, ("spot", 1, errors.BadSpot, NO_SPOTS), ("times", -7, errors.BadTimes, NO_NUMBERS)]),
    (forms.shortening_spots, [HOUSE, WALKED]),
    (forms.shortened, [HOUSE, WALKED, ("spot", 0, errors.BadSpot, NO_SPOTS + (1,))]),
    (forms.is_plain, [HOUSE, THING]),
    (forms.plain_form, [HOUSE, WALKED]),
    (forms.are_one, [HOUSE, ONE, OTHER]),
    (forms.is_nothing, [HOUSE, WALKED]),
    (forms.spots_to_nothing, [HOUSE, ("walk", (0, (-4, 6, 0), WALK[2]), errors.BadWalk, NO_WALKS)]),
    (forms.are_spots, [HOUSE, WALKED, SPOTS]),
    (forms.after_move, [HOUSE, WALKED, ("move", ("put", 0, (0, 0), 3), errors.BadMove, NO_MOVES)]),
    (forms.moves_between, [HOUSE, ONE, ("other", (0, (5,), ()), errors.BadWalk, NO_WALKS)]),
    (forms.are_moves, [HOUSE, ONE, ("other", (0, (5,), ()), errors.BadWalk, NO_WALKS), MOVES]),
    (cores.is_core, [HOUSE, THING]),
    (cores.core_of, [HOUSE, WALKED, ROUND]),
    (cores.steps_of, [HOUSE, WALKED, ROUND]),
    (cores.turned_core, [HOUSE, WALKED, ROUND, ("many", 1, errors.BadMany, NO_NUMBERS + (-1, 3))]),
    (ratios.ratio_of, [HOUSE, WALKED]),
    (ratios.are_lengths, [HOUSE, LENGTHS]),
    (ratios.lengths_of, [HOUSE]),
    (ratios.stretching_walk, [HOUSE]),
    (ratios.are_signs, [HOUSE, SIGNS]),
    (ratios.signs_of, [HOUSE]),
    (ratios.turning_walk, [HOUSE]),
    (ratios.carried_along, [HOUSE, ("number", -6, errors.BadNumber, NO_NUMBERS),
                            ("walk", BARE, errors.BadWalk, NO_WALKS + (WALK,))]),
    (ratios.kept_pulls, [HOUSE]),
    (weights.are_weights, [HOUSE, WEIGHTS]),
    (weights.weights_of, [HOUSE, FEW]),
    (weights.is_growth, [HOUSE, GROWTH]),
    (weights.growth_of, [HOUSE, FEW]),
    (moving.is_state, [HOUSE, THING]),
    (moving.next_states, [HOUSE, STATE]),
    (moving.moved_by, [HOUSE, STATE, WAY]),
    (moving.endless_pair, [HOUSE, STATE]),
    (moving.class_of, [HOUSE, STATE]),
    (books.is_rule, [HOUSE, RULE]),
    (books.led_by, [HOUSE, ("rules", BOOK, errors.BadRules, NO_ROWS), STATE]),
    (books.is_book, [HOUSE, FEW_DOORS, BOOK_JUDGED]),
    (books.book_of, [HOUSE, FEW_DOORS]),
    (books.least_state, [HOUSE, STATE, FEW_DOORS]),
    (books.are_moved, [HOUSE, STATE, OTHER_STATE, FEW_DOORS]),
    (books.rule_way, [HOUSE, FEW_DOORS, ("rule", BOOK[0], errors.BadRule, ODD + (BOOK[0][::-1], list(BOOK[0])))]),
    (books.way_down, [HOUSE, STATE, FEW_DOORS]),
    (books.moved_way, [HOUSE, STATE, OTHER_STATE, FEW_DOORS]),
    (classes.in_rows, [ROWS_TOLD, NUMBER]),
    (classes.rows_met, [ROWS_TOLD, MORE_ROWS]),
    (classes.rows_together, [ROWS_TOLD, MORE_ROWS]),
    (classes.rows_within, [ROWS_TOLD, MORE_ROWS]),
    (classes.same_rows, [ROWS_TOLD, MORE_ROWS]),
    (classes.least_rows, [ROWS_TOLD, ("rows", ROWS, errors.TooMany, ([(0, 2001)],))]),
    (patterns.is_pattern, [HOUSE, THING]),
    (patterns.filled, [HOUSE, PATTERNED, NUMBER]),
    (patterns.nothing_for, [HOUSE, PATTERNED, HOME_PATTERN]),
    (patterns.one_for, [HOUSE, PATTERNED, OTHER_PATTERN, ("other", PATTERN, errors.Elsewhere, ((1, ((0, 0),), ()),))]),
    (patterns.pairings, [HOUSE, PATTERNED, HOME_PATTERN]),
    (patterns.paired_for, [HOUSE, PATTERNED, HOME_PATTERN,
                           ("pairing", (1, 0), errors.BadPairing, ODD + ([1, 0], (True, 0), (0, 0), ()))]),
    (patterns.shortest_for, [HOUSE, PATTERNED]),
    (halls.Hall, [("house", DOUBLE, errors.BadHouse, NO_HOUSES),
                  ("ropes", HALL.ropes, errors.BadRopes, ODD + (list(HALL.ropes), ([1, 2, 0],), ((0, True),), ((),))),
                  ("ways", HALL.ways, errors.BadWays, ODD + ((), list(HALL.ways), ((0, 1),), ([0, 2, 1],)))]),
    (halls.led_seat, [HALLED, HALL_WALK, SEAT]),
    (halls.arrangement_of, [HALLED, HALL_WALK]),
    (halls.halls_many, [HOUSE, ("seats", 3, errors.BadSeats, NO_NUMBERS + (0, 6, HUGE)),
                        ("seats", 3, errors.TooMany, (5,))]),
    (halls.parting_hall, [HOUSE, WALKED, ROUND, ("most", 2, errors.BadMost, NO_NUMBERS + (0, 4, HUGE)),
                          ("house", PAIR, errors.TooMany, (houses.House(2, PAIR.doors * 2 + ((0, 1, 0, 1),)),))]),
    (halls.halls_beside, [HALLED, OTHER_HALL, ("other", HALL, errors.Elsewhere,
                                               (halls.Hall(houses.House(1, ()), ((0,),), ()),))]),
    (returns.returns_of, [HALLED]),
    (returns.are_fitting, [DEEP_HOUSE, FITTING]),
    (returns.hall_of_returns, [DEEP_HOUSE, ("fitting", (10,), errors.BadFitting, ODD + ((4,), (0,), [10], (True,))),
                               ("fitting", (10,), errors.TooMany, ((5003,),))]),
    (returns.greatest_power, [DEEP_HOUSE, ("prime", 2, errors.BadPrime, NO_NUMBERS + (0, 1, 4, 1009, HUGE))]),
    (returns.bounded_primes, [HOUSE]),
    (returns.deep_part, [HOUSE]),
    (wide.wide_arrived, [DEEP_HOUSE, ("thing", (0, 1), errors.BadPass, NO_PASSES),
                         ("wide", (0, (3, 2)), errors.BadWide, NO_STATES[:-5] + ((2, 1), (0, (2, 4)), (0, (1, 5))))]),
    (wide.is_wide, [DEEP_HOUSE, THING]),
    (wide.as_wide, [HOUSE, WALKED]),
    (wide.wide_spots, [DEEP_HOUSE, WIDE_TOLD]),
    (wide.wide_shortened, [DEEP_HOUSE, WIDE_TOLD, ("spot", 0, errors.BadSpot, NO_SPOTS + (1,))]),
    (wide.dead_spots, [HOUSE, WALKED, ROUND]),
    (wide.is_dead, [HOUSE, WALKED, ROUND]),
    (wide.are_dead_spots, [HOUSE, WALKED, ROUND, SPOTS_JUDGED]),
    (everyk.forms_for, [DEEP_HOUSE, HALL_PATTERN, ("pattern", PATTERN, errors.TooMany, (FIVE_PASSES,))]),
    (everyk.seat_for, [HALLED, HALL_PATTERN, SEAT]),
    (everyk.dead_for, [HOUSE, PATTERNED, HOME_PATTERN]),
    (shows.hall_with, [HOUSE, ("fitting", (10, 5), errors.BadFitting, ODD + ((4, 3), (2,), [10, 5], (10, True))), WALKED,
                       ROUND, ("fitting", (10, 5), errors.TooMany, ((5003, 5003),))]),
    (shows.hall_for, [HOUSE, WALKED, ROUND]),
    (shows.is_rising, [HOUSE]),
    (shows.dead_walk, [HOUSE]),
    (alikeness.lead_between, [HOUSE, ONE, HOME_ONE, OTHER, HOME_OTHER, FEW_DOORS]),
    (alikeness.joining_pulls, [HOUSE, ONE, HOME_ONE, OTHER, HOME_OTHER, UNLIKE_ROOM]),
    (alikeness.past_one_another, [HOUSE, ONE, HOME_ONE, OTHER, HOME_OTHER, UNLIKE_ROOM]),
    (alikeness.pulls_past, [HOUSE, WALKED, ROUND]),
    (alikeness.pulls_past_all, [HOUSE, ROOM]),
    (roots.root_of, [HOUSE] + GOES + [MANY]),
    (roots.root_pulls, [HOUSE] + GOES + [
        ("walk", GOING, errors.NoCore, ((1, (5, 0, 0), ((1, 1), (1, 1))),)), MANY]),
    (roots.greatest_root, [HOUSE] + GOES),
    (lots.within, [PAIR_HALLED, WALKED, ROUND, PAIR_SEAT]),
    (lots.beside_many, [PAIR_HALLED, ROOM, PAIR_SEAT]),
    (lots.lead_to, [PAIR_HALLED, ROOM, PAIR_SEAT, ("other", 6, errors.BadSeat, NO_SEATS)]),
    (lots.are_one_lot, [PAIR_HALLED, OTHER_PAIR_HALL, UNLIKE_HALL, ROOM, PAIR_SEAT,
                        ("place", 9, errors.BadSeat, NO_SEATS + (20,))]),
    (lots.lots_many, [HOUSE, ("many", 2, errors.BadMany, NO_NUMBERS + (0, 5, HUGE)),
                      ("house", PAIR, errors.TooMany, (TWELVE,))]),
    (lots.meeting_hall, [HALLED, OTHER_HALL, ("other", HALL, errors.Elsewhere, (PAIR_HALL,)),
                         ("other", HALL, errors.TooMany, (WIDE_HALL,))]),
    (covers.cover_rooms, [PAIR_HALLED, PAIR_SEAT]),
    (covers.cover_doors, [PAIR_HALLED, PAIR_SEAT]),
    (covers.cover_of, [PAIR_HALLED, PAIR_SEAT, WIDE_COVER]),
    (covers.out_of_cover, [PAIR_HALLED, PAIR_SEAT, WIDE_COVER, ("walk", (0, (2, 1), ((0, 0),)), errors.BadWalk,
                                                                NO_COVER_WALKS)]),
    (covers.into_cover, [PAIR_HALLED, PAIR_SEAT, ("walk", COVERED, errors.BadWalk, NO_WALKS),
                         ("walk", COVERED, errors.NotHome, (FAR,)),
                         ("walk", COVERED, errors.Elsewhere, ((1, (0,), ()), (1, (1,), ()))),
                         ("walk", COVERED, errors.NotWithin, ((0, (1, 0, 0, 0), ((0, 0), (1, 0), (0, 1))),)),
                         WIDE_COVER]),
    (covers.plain_cover, [HOUSE]),
    (changing.is_change, [HOUSE, THING]),
    (changing.changed, [HOUSE, CHANGE]),
    (changing.room_along, [HOUSE, CHANGE, ROOM]),
    (changing.changed_by, [HOUSE, CHANGES]),
    (changing.along, [HOUSE, CHANGE, WALKED]),
    (changing.along_by, [HOUSE, CHANGES, WALKED]),
    (changing.along_back, [HOUSE, CHANGE, WALKED]),
    (changing.hall_along, [HOUSE, CHANGE, ("hall", PAIR_HALL, errors.BadHall, ODD + (HALL, PAIR))]),
    (changing.folded_away, [HOUSE]),
    (changing.single_alike, [("one", SINGLE, errors.BadSingle, NO_SINGLES),
                             ("other", DOUBLE, errors.BadSingle, NO_SINGLES)]),
    (strolls.Stroll, [HOUSE, ROOM]),
]
# What stands last for functions that judge any value.
JUDGES = [THING, WAY, RULE, BOOK_JUDGED, FITTING, SPOTS_JUDGED] + JUDGED


def right_values(places):
    return {name: right for name, right, _, _ in places}


def spoilt(result):
    """Changes the lists and dicts of a result, at every depth."""
    if isinstance(result, (list, tuple)):
        for part in result:
            spoilt(part)
    if isinstance(result, list):
        result.append("spoilt")
    if isinstance(result, dict):
        for part in list(result.values()):
            spoilt(part)
        result["spoilt"] = True


class Conventions(unittest.TestCase):
    def test_by_position_and_by_name(self):
        for asked, places in CALLS:
            values = right_values(places)
            result = asked(*values.values())
            self.assertEqual(asked(**values), result, asked.__name__)
            self.assertEqual(asked(**dict(reversed(list(values.items())))), result, asked.__name__)

    def test_wrong_values_and_the_first_error(self):
        for asked, places in CALLS:
            for at, (name, _, error, wrong) in enumerate(places):
                for value in wrong:
                    self.refused(asked, places, name, error, value, ())
                    self.refused(asked, places, name, error, value, places[at + 1:])

    def refused(self, asked, places, name, error, value, later):
        """The error comes even where the parameters told later have wrong values, too."""
        values = right_values(places)
        values.update({other: wrong[0] for other, _, _, wrong in later if other != name and wrong})
        values[name] = value
        with self.subTest(asked=asked.__name__, name=name, value=value, later=bool(later)):
            with self.assertRaises(errors.PullError) as caught:
                asked(**values)
            self.assertIs(type(caught.exception), error)

    def test_any_value_is_judged(self):
        for asked, places in CALLS:
            if places[-1] not in JUDGES:
                continue
            for thing in NO_WALKS[len(ODD):] + NO_HOUSES + NO_MOVES:
                with self.subTest(asked=asked.__name__, thing=thing):
                    wanted = None if asked is moving.moved_by else asked is moving.is_state and repr(thing) == "(0, 1)"
                    self.assertIs(asked(**{**right_values(places), "thing": thing}), wanted)

    def test_the_house_is_checked_ahead_of_what_is_judged(self):
        for asked, places in CALLS:
            if places[-1] not in JUDGES:
                continue
            for thing in ODD:
                with self.subTest(asked=asked.__name__, thing=thing), self.assertRaises(errors.BadHouse):
                    asked(**{**right_values(places), "house": None, "thing": thing})

    def test_results_are_new_each_time(self):
        for asked, places in CALLS:
            values = right_values(places)
            wanted = copy.deepcopy(asked(**values))
            spoilt(asked(**values))
            self.assertEqual(asked(**values), wanted, asked.__name__)

    def test_what_is_passed_stays(self):
        for asked, places in CALLS:
            values = right_values(places)
            kept = copy.deepcopy(values)
            spoilt(asked(**values))
            self.assertEqual(values, kept, asked.__name__)

    def test_a_list_where_a_list_is_expected_or_a_tuple(self):
        self.assertEqual(texts.walks_text(PAIR, (WALK, FAR)), texts.walks_text(PAIR, [WALK, FAR]))
        for wrap in (list, tuple):
            self.assertIs(forms.are_spots(PAIR, (0, (-4, 6, 0), WALK[2]), wrap([0])), True)
            self.assertIs(forms.are_moves(PAIR, WALK, (0, (5,), ()), wrap([("cancel", 0)])), True)
            growing = houses.House(1, ((0, 1, 0, 6),))
            self.assertIs(weights.is_growth(growing, wrap([((0, (0, 0), ((0, 0),)), 1)])), True)


class Objects(unittest.TestCase):
    def test_a_house_is_equal_to_no_other_value(self):
        for thing in NO_HOUSES:
            self.assertFalse(SINGLE == thing or thing == SINGLE)
            self.assertTrue(SINGLE != thing and thing != SINGLE)


if __name__ == "__main__":
    unittest.main()
