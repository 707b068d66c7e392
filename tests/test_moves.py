"""[22] Spots that lead to nothing, and moves."""

import random
import unittest

from pulledrooms.errors import BadMove, BadWalk
from pulledrooms.forms import (
    after_move, are_moves, are_one, are_spots, is_nothing, moves_between, plain_form, spots_to_nothing,
)
from tests.helper import (
    GREAT, HUGE, NO_NUMBERS, ODD, PAIR, RING, SINGLE, TWINS, all_passes, cancel, carry, ends, houses_by_chance,
    put_together, rooms_of, shorten, some_nothing, some_walk, spots, turned_back,
)

THERE, HERE = (0, 0), (0, 1)
NOTHING = (0, (-4, 6, 0), (THERE, HERE))


def is_number(thing):
    return isinstance(thing, int) and not isinstance(thing, bool)


def spots_lead(house, walk, found):
    """Whether the spots lead to standing, step by step."""
    for spot in found:
        if not is_number(spot) or spot not in spots(house, walk):
            return False
        walk = shorten(house, walk, spot)
    return walk == (walk[0], (0,), ())


def behind(house, walk, move):
    """The walk behind a move, or None."""
    room, pulls, steps = walk
    if move[0] == "carry":
        return carry(house, walk, move[1], move[2]) if 0 <= move[1] < len(steps) else None
    spot = move[1]
    if move[0] == "cancel":
        if not 0 <= spot < len(steps) - 1 or pulls[spot + 1] != 0:
            return None
        return cancel(walk, spot) if steps[spot + 1] == (steps[spot][0], 1 - steps[spot][1]) else None
    _, _, step, ahead = move
    if not 0 <= spot < len(pulls) or ends(house, step)[0] != rooms_of(house, walk)[spot]:
        return None
    pulls = pulls[:spot] + (ahead, 0, pulls[spot] - ahead) + pulls[spot + 1:]
    return room, pulls, steps[:spot] + (step, (step[0], 1 - step[1])) + steps[spot:]


def moves_lead(house, one, other, moves):
    """Whether the moves lead one to other, step by step."""
    walk = one
    for move in moves:
        walk = behind(house, walk, move)
        if walk is None:
            return False
    return walk == other


def with_one_item(found, item):
    """Lists like found, with one item left out, in the place of another one, or put on."""
    for at in range(len(found) + 1):
        yield found[:at] + found[at + 1:] if at < len(found) else found + [item]
        yield found[:at] + [item] + found[at:]
        if at < len(found):
            yield found[:at] + [item] + found[at + 1:]


class SpotsToNothing(unittest.TestCase):
    def test_values(self):
        self.assertEqual(spots_to_nothing(SINGLE, NOTHING), [0])
        self.assertEqual(spots_to_nothing(SINGLE, (0, (0,), ())), [])
        self.assertEqual(spots_to_nothing(PAIR, (1, (0,), ())), [])
        self.assertIsNone(spots_to_nothing(SINGLE, (0, (1,), ())))
        self.assertIsNone(spots_to_nothing(SINGLE, (0, (-HUGE,), ())))
        self.assertIsNone(spots_to_nothing(SINGLE, (0, (-4, 6, 1), (THERE, HERE))))
        self.assertIsNone(spots_to_nothing(PAIR, (0, (0, 0), (THERE,))))
        self.assertIsNone(spots_to_nothing(SINGLE, (0, (1, 1, -1, -1, 0), (HERE, THERE, HERE, THERE))))

    def test_many(self):
        for chance, house in houses_by_chance(50, 150):
            walk = some_nothing(chance, house, chance.randint(0, 14))
            found = spots_to_nothing(house, walk)
            self.assertIsInstance(found, list)
            self.assertTrue(spots_lead(house, walk, found))
            self.assertEqual(2 * len(found), len(walk[2]))
            self.assertIs(are_spots(house, walk, found), True)
            self.assertIs(are_spots(house, walk, tuple(found)), True)

    def test_just_if_it_is_nothing(self):
        for chance, house in houses_by_chance(51, 200):
            walk = some_walk(chance, house, chance.randint(0, 6), turns=0.9, pulls=(-3, 3))
            self.assertIs(spots_to_nothing(house, walk) is not None, is_nothing(house, walk))

    def test_sixty_passes(self):
        chance = random.Random(52)
        for house in (SINGLE, RING, GREAT):
            half = some_walk(chance, house, 30, pulls=(-HUGE, HUGE))
            walk = put_together(half, turned_back(house, half))
            found = spots_to_nothing(house, walk)
            self.assertEqual(len(found), 30)
            self.assertTrue(spots_lead(house, walk, found))
            self.assertTrue(are_spots(house, walk, found))

    def test_near_misses(self):
        for chance, house in houses_by_chance(53, 60):
            walk = some_nothing(chance, house, chance.randint(2, 8))
            found = spots_to_nothing(house, walk)
            for item in range(-1, 4):
                for changed in with_one_item(found, item):
                    self.assertIs(are_spots(house, walk, changed), spots_lead(house, walk, changed))

    def test_values_of_other_kinds(self):
        walk = (0, (0, 1, 0, -1, 0), (THERE, HERE, THERE, HERE))
        self.assertTrue(spots_lead(SINGLE, walk, [1, 0]))
        self.assertIs(are_spots(SINGLE, walk, [1, 0]), True)
        self.assertIs(are_spots(SINGLE, walk, (1, 0)), True)
        for thing in ODD + (
            [True, 0], [1, False], (True, False), [1], [1, 0, 0], [1, 0, -1], [-3, 0], [1, None], ["1", "0"], [[1, 0]],
            {1: 0}, {1: 1, 0: 0}, "10", 10, [1, (0,)], [2, 0], [],
        ):
            with self.subTest(thing=thing):
                self.assertIs(are_spots(SINGLE, walk, thing), False)

    def test_of_walks_that_are_not_nothing(self):
        self.assertIs(are_spots(SINGLE, (0, (-4, 6, 1), (THERE, HERE)), [0]), False)
        self.assertIs(are_spots(SINGLE, (0, (1,), ()), []), False)
        self.assertIs(are_spots(SINGLE, (0, (0,), ()), []), True)
        self.assertIs(are_spots(SINGLE, (0, (0,), ()), ()), True)
        self.assertIs(are_spots(PAIR, (0, (0, 0), (THERE,)), []), False)

    def test_wrong_walks(self):
        for walk in ODD:
            with self.assertRaises(BadWalk):
                spots_to_nothing(SINGLE, walk)
            with self.assertRaises(BadWalk):
                are_spots(SINGLE, walk, [])


class AfterMove(unittest.TestCase):
    def test_values(self):
        walk = (0, (-4, 6, 0), (THERE, HERE))
        self.assertEqual(after_move(SINGLE, walk, ("carry", 0, -2)), (0, (0, 0, 0), (THERE, HERE)))
        self.assertEqual(after_move(SINGLE, walk, ("carry", 1, HUGE)), (0, (-4, 6 - 3 * HUGE, 2 * HUGE), (THERE, HERE)))
        self.assertEqual(after_move(SINGLE, walk, ("carry", 1, 0)), walk)
        self.assertEqual(after_move(SINGLE, (0, (1, 0, 2), (THERE, HERE)), ("cancel", 0)), (0, (3,), ()))
        self.assertEqual(after_move(PAIR, (1, (5,), ()), ("put", 0, HERE, 7)), (1, (7, 0, -2), (HERE, THERE)))
        self.assertEqual(after_move(PAIR, (0, (5, 1), (THERE,)), ("put", 1, (1, 1), -1)),
                         (0, (5, -1, 0, 2), (THERE, (1, 1), (1, 0))))
        self.assertEqual(after_move(PAIR, (0, (5, 1), (THERE,)), ("put", 0, THERE, 0)),
                         (0, (0, 0, 5, 1), (THERE, HERE, THERE)))

    def test_wrong_moves(self):
        walk = (0, (-4, 0, 3, 0), (THERE, HERE, THERE))
        good = [("carry", 0, 1), ("carry", 2, 1), ("cancel", 0), ("put", 0, THERE, 1), ("put", 3, HERE, 1)]
        for move in good:
            self.assertEqual(after_move(PAIR, walk, move), behind(PAIR, walk, move))
        wrong = [
            ("carry", 3, 1), ("carry", -1, 1), ("carry", False, 1), ("carry", 0, True), ("carry", 0, None),
            ("carry", 0), ("carry", 0, "1"), ("carry", 0, 1, 1), ["carry", 0, 1], ("carry", None, 1), ("carry",),
            ("Carry", 0, 1),
            ("cancel", 1), ("cancel", 2), ("cancel", 3), ("cancel", -1), ("cancel", -3), ("cancel", False),
            ("cancel", 0, 0), ["cancel", 0], ("cancel",), ("cancel", None), ("cancel", "0"), ("cancels", 0),
            ("put", 4, HERE, 1), ("put", -1, HERE, 1), ("put", -1, THERE, 1), ("put", -4, THERE, 1),
            ("put", False, THERE, 1),
            ("put", 0, HERE, 1), ("put", 1, THERE, 1), ("put", 0, (1, 0), 1), ("put", 0, (2, 0), 1),
            ("put", 0, [0, 0], 1), ("put", 0, (0, False), 1), ("put", 0, (False, 0), 1), ("put", 0, None, 1),
            ("put", 0, THERE, True), ("put", 0, THERE, None), ("put", 0, THERE), ("put", 0, THERE, 1, 1),
            ["put", 0, THERE, 1], ("put", None, THERE, 1), ("", 0), (0, 0), (None, 0, 1), ((), 0, THERE, 1), ("put",),
            (("cancel", 0),), [("cancel", 0)], ("cancel", (0,)), ({}, 0), (SINGLE, 0, 1),
        ]
        for move in tuple(wrong) + ODD:
            with self.subTest(move=move):
                with self.assertRaises(BadMove):
                    after_move(PAIR, walk, move)
                self.assertIs(are_moves(PAIR, walk, walk, [move]), False)

    def test_cancelling_asks_for_no_pulls_between(self):
        for between in (3, -3, 1, HUGE):
            with self.assertRaises(BadMove):
                after_move(SINGLE, (0, (1, between, 1), (THERE, HERE)), ("cancel", 0))

    def test_without_passes(self):
        for move in (("carry", 0, 1), ("cancel", 0), ("put", 1, THERE, 0)):
            with self.assertRaises(BadMove):
                after_move(SINGLE, (0, (0,), ()), move)

    def test_put_and_cancel_undo_one_another(self):
        for chance, house in houses_by_chance(54, 100):
            walk = some_walk(chance, house, chance.randint(0, 5))
            for spot, room in enumerate(rooms_of(house, walk)):
                for step in all_passes(house):
                    move = ("put", spot, step, chance.randint(-9, 9))
                    if ends(house, step)[0] == room:
                        longer = after_move(house, walk, move)
                        self.assertEqual(longer, behind(house, walk, move))
                        self.assertEqual(after_move(house, longer, ("cancel", spot)), walk)
                        self.assertTrue(are_moves(house, walk, walk, [move, ("cancel", spot)]))
                        self.assertTrue(are_one(house, walk, longer))
                    else:
                        with self.assertRaises(BadMove):
                            after_move(house, walk, move)


class MovesBetween(unittest.TestCase):
    def judged(self, house, one, other):
        moves = moves_between(house, one, other)
        self.assertIsInstance(moves, list)
        self.assertTrue(moves_lead(house, one, other, moves))
        self.assertIs(are_moves(house, one, other, moves), True)
        self.assertIs(are_moves(house, one, other, tuple(moves)), True)
        self.assertEqual(moves == [], one == other)
        return moves

    def test_values(self):
        self.assertEqual(moves_between(SINGLE, NOTHING, NOTHING), [])
        self.assertIsNone(moves_between(SINGLE, NOTHING, (0, (1,), ())))
        self.assertIsNone(moves_between(PAIR, (0, (0,), ()), (1, (0,), ())))
        self.assertIsNone(moves_between(PAIR, (0, (0, 0), (THERE,)), (0, (0,), ())))
        self.assertIsNone(moves_between(TWINS, (0, (0, 0), ((0, 0),)), (0, (0, 0), ((1, 0),))))
        self.judged(SINGLE, NOTHING, (0, (0,), ()))
        self.judged(SINGLE, (0, (0,), ()), NOTHING)
        self.judged(SINGLE, (0, (2, 0), (THERE,)), (0, (0, 3), (THERE,)))

    def test_many(self):
        for chance, house in houses_by_chance(55, 120):
            one = some_walk(chance, house, chance.randint(0, 6))
            nothing = some_nothing(chance, house, chance.randint(0, 8))
            if nothing[0] != one[0]:
                nothing = one[0], (0,), ()
            other = put_together(nothing, one, turned_back(house, one), one)
            self.judged(house, one, other)
            self.judged(house, other, one)
            self.judged(house, one, plain_form(house, one))
            room, pulls, steps = other
            self.assertIsNone(moves_between(house, one, (room, pulls[:-1] + (pulls[-1] + 1,), steps)))

    def test_sixty_passes(self):
        chance = random.Random(56)
        for house in (SINGLE, RING, GREAT):
            half = some_walk(chance, house, 20, pulls=(-HUGE, HUGE))
            walk = put_together(half, turned_back(house, half), half)
            self.judged(house, walk, half)
            self.judged(house, half, walk)

    def test_near_misses(self):
        for chance, house in houses_by_chance(57, 40):
            one = some_walk(chance, house, chance.randint(2, 5))
            other = carry(house, one, 0, 2) if one[2] else one
            moves = moves_between(house, one, put_together(other, turned_back(house, other), other))
            goal = put_together(other, turned_back(house, other), other)
            if not one[2]:
                continue
            items = [("carry", 0, 1), ("cancel", 0), ("cancel", 1), ("put", 0, one[2][0], 1), ("carry", 1, -1)]
            for item in items:
                for changed in with_one_item(moves, item):
                    self.assertIs(are_moves(house, one, goal, changed), moves_lead(house, one, goal, changed))

    def test_values_of_other_kinds(self):
        one, other = (0, (2, 0), (THERE,)), (0, (0, 3), (THERE,))
        right = [("carry", 0, 1)]
        self.assertIs(are_moves(SINGLE, one, other, right), True)
        self.assertIs(are_moves(SINGLE, one, other, tuple(right)), True)
        for thing in ODD + ([("carry", 0, True)], [("carry", False, 1)], [["carry", 0, 1]], {("carry", 0, 1): 1},
                            ("carry", 0, 1), [right], right * 2, right + [None], [None] + right, [("carry", 0, 2)], []):
            with self.subTest(thing=thing):
                self.assertIs(are_moves(SINGLE, one, other, thing), False)

    def test_no_moves(self):
        self.assertIs(are_moves(SINGLE, NOTHING, NOTHING, []), True)
        self.assertIs(are_moves(SINGLE, NOTHING, NOTHING, ()), True)
        self.assertIs(are_moves(SINGLE, NOTHING, (0, (0,), ()), []), False)
        for thing in NO_NUMBERS:
            if thing not in ([], ()):
                self.assertIs(are_moves(SINGLE, NOTHING, NOTHING, thing), False)

    def test_wrong_walks(self):
        for walk in ODD:
            for asked, more in ((moves_between, ()), (are_moves, ([],))):
                with self.assertRaises(BadWalk):
                    asked(SINGLE, walk, NOTHING, *more)
                with self.assertRaises(BadWalk):
                    asked(SINGLE, NOTHING, walk, *more)
            with self.assertRaises(BadWalk):
                after_move(SINGLE, walk, ("cancel", 0))


if __name__ == "__main__":
    unittest.main()
