"""[2] (c), [42], [43] Rules, books, least states and the ways to them."""

import random
import unittest
from math import lcm

from pulledrooms.books import (are_moved, book_of, is_book, is_rule, least_state, led_by, moved_way, rule_way,
                               way_down)
from pulledrooms.errors import BadHouse, BadRule, BadRules, BadState, TooMany
from pulledrooms.houses import House
from pulledrooms.moving import class_of, endless_pair, moved_by
from tests.helper import ALONE, HUGE, ODD, PAIR, SINGLE, class_here, some_house, some_state

BOOK = [((0, -3), (0, -2)), ((0, 3), (0, 2))]
BOTH = House(1, ((0, 2, 0, 3), (0, 4, 0, 5)))
FIVE = House(1, ((0, 1, 0, 1),) * 5)
SMOOTH = (1, 2, 3, 4, 6, 8, 9, 10, 12, 15)


def rank(state):
    return abs(state[1]), state[0], 0 if state[1] > 0 else 1


def fits(rule, state):
    (room, great), _ = rule
    return room == state[0] and state[1] % great == 0 and state[1] // great >= 1


def led_here(rules, state):
    while True:
        for rule in rules:
            if fits(rule, state):
                (_, great), (room, small) = rule
                state = room, small * (state[1] // great)
                break
        else:
            return state


def few_doors(seed, many, numbers=SMOOTH, most_rooms=4):
    """So many pairs of a chance and a house of at most four doors."""
    chance = random.Random(seed)
    found = []
    while len(found) < many:
        house = some_house(chance, numbers=numbers, most_rooms=most_rooms)
        if len(house.doors) <= 4:
            found.append((chance, house))
    return found


def is_book_here(house, rules):
    """Looks at all pairs that the HEART names."""
    if list(rules) != sorted(set(rules)) or not all(rank(small) < rank(great) for great, small in rules):
        return False
    pairs = []
    for near, first, far, second in house.doors:
        pairs += [((near, first), (far, second)), ((near, -first), (far, -second))]
    for at, (great, small) in enumerate(rules):
        for large, little in rules[:at]:
            if great[0] == large[0] and great[1] * large[1] > 0:
                both = lcm(great[1], large[1])
                pairs.append(((small[0], small[1] * (both // abs(great[1]))),
                              (little[0], little[1] * (both // abs(large[1])))))
    return all(led_here(rules, one) == led_here(rules, other) for one, other in pairs)


class Rules(unittest.TestCase):
    def test_what_is_a_rule(self):
        for rule in (((0, 3), (0, 2)), ((1, 2), (0, 2)), ((0, -2), (0, 2)), ((0, -2), (1, -1)), ((1, HUGE), (1, -1)),
                     ((1, 2), (0, -2)), ((0, -3), (1, 2))):
            self.assertIs(is_rule(PAIR, rule), True, rule)
            self.assertIs(is_rule(PAIR, rule[::-1]), False, rule)
        for thing in ODD + (((0, 2), (0, 2)), [(0, 3), (0, 2)], ((0, 3), [0, 2]), ((0, 3), (0, 0)), ((0, 3), (0, True)),
                            ((False, 3), (0, 2)), ((2, 3), (0, 2)), ((0, 3), (0, 2), (0, 1)), ((0, 3),)):
            self.assertIs(is_rule(PAIR, thing), False, thing)

    def test_led_by_the_first_one_that_fits(self):
        self.assertEqual(led_by(SINGLE, BOOK, (0, 12)), (0, 8))
        one, other = ((0, 6), (0, 5)), ((0, 3), (0, 1))
        self.assertEqual(led_by(SINGLE, [one, other], (0, 18)), (0, 5))
        self.assertEqual(led_by(SINGLE, [other, one], (0, 18)), (0, 2))
        self.assertEqual(led_by(SINGLE, (other, one, other), (0, 18)), (0, 2))
        self.assertEqual(led_by(SINGLE, [one, one, one], (0, 6 * HUGE)), (0, 5 * HUGE))
        self.assertEqual(led_by(SINGLE, [], (0, 18)), (0, 18))
        self.assertEqual(led_by(SINGLE, [one, other], (0, -18)), (0, -18))
        self.assertEqual(led_by(PAIR, [((0, -2), (1, 1)), ((1, 2), (0, 1))], (0, -8)), (0, 2))

    def test_led_by_as_told(self):
        for chance, house in few_doors(50, 150):
            states = [some_state(chance, house, 2) for _ in range(8)]
            rules = [(one, other) for one in states for other in states if rank(other) < rank(one)]
            rules = [chance.choice(rules) for _ in range(chance.randint(0, 5)) if rules]
            state = some_state(chance, house)
            self.assertEqual(led_by(house, rules, state), led_here(rules, state))

    def test_wrong_rules(self):
        for thing in ODD + ([((0, 2), (0, 3))], [((0, 3), (0, 2)), None], {((0, 3), (0, 2)): 1}, ((0, 3), (0, 2))):
            if thing not in ([], ()):
                with self.assertRaises(BadRules):
                    led_by(PAIR, thing, None)
        with self.assertRaises(BadHouse):
            led_by(None, None, None)
        with self.assertRaises(BadState):
            led_by(FIVE, [], (0, 0))


class Books(unittest.TestCase):
    def judged(self, house):
        book = book_of(house)
        self.assertIsInstance(book, list)
        self.assertTrue(is_book_here(house, book), house.doors)
        self.assertIs(is_book(house, book), True)
        self.assertIs(is_book(house, tuple(book)), True)
        for rule in book:
            great, small = rule
            self.assertIs(is_rule(house, rule), True)
            self.assertEqual(moved_by(house, great, rule_way(house, rule)), small)
            for other in book:
                self.assertFalse(fits(other, small))
                self.assertTrue(other == rule or not fits(other, great))
        return book

    def test_examples(self):
        self.assertEqual(book_of(SINGLE), BOOK)
        self.assertEqual(book_of(BOTH), [((0, -5), (0, -4)), BOOK[0], BOOK[1], ((0, 5), (0, 4))])
        self.assertEqual(led_by(BOTH, book_of(BOTH), (0, 15)), (0, 8))
        self.assertEqual(rule_way(SINGLE, BOOK[1]), ((0, 1),))

    def test_books_by_chance(self):
        lengths = []
        for _, house in few_doors(51, 250):
            lengths.append(len(self.judged(house)))
        for _, house in few_doors(52, 60, numbers=(30, 42, 70, 105, 36, 100, 225, 512, 243), most_rooms=2):
            lengths.append(len(self.judged(house)))
        self.assertGreater(max(lengths), 12)

    def test_houses_of_each_number_of_doors(self):
        self.assertEqual(book_of(ALONE), [])
        self.assertIs(is_book(ALONE, []), True)
        self.assertEqual(led_by(ALONE, [], (0, 7)), least_state(ALONE, (0, 7)))
        for many in range(1, 5):
            doors = ((0, 6, 1, 4), (1, 9, 0, -10), (0, 12, 0, 18), (1, 1, 1, 25))[:many]
            self.judged(House(2, doors))
        self.judged(House(5, ((0, 4, 1, 6), (2, 9, 1, 6), (3, 1, 0, 10), (4, 15, 0, 2))))

    def test_a_number_moved_to_its_other_sign(self):
        self.assertEqual(book_of(House(1, ((0, 1, 0, -1),))), [((0, -1), (0, 1))])
        self.assertEqual(book_of(House(2, ((0, 1, 1, 1), (0, 2, 1, -2)))),
                         [((0, -2), (0, 2)), ((1, -1), (0, -1)), ((1, 1), (0, 1))])

    def test_doors_numbered_otherwise_and_turned(self):
        for chance, house in few_doors(53, 120):
            doors = [door if chance.random() < 0.5 else door[2:] + door[:2] for door in house.doors]
            chance.shuffle(doors)
            self.assertEqual(book_of(House(house.rooms, tuple(doors))), book_of(house))

    def test_books_changed(self):
        refused = 0
        for chance, house in few_doors(54, 80):
            book = book_of(house)
            if len(book) < 2:
                continue
            at = chance.randrange(len(book))
            (room, great), (there, small) = book[at]
            for rule in (((room, great), (there, 2 * small)), ((room, 2 * great), (there, 2 * small)),
                         ((room, great), (there, -small)), ((there, small), (room, great))):
                changed = sorted(book[:at] + [rule] + book[at + 1:])
                right = is_book_here(house, changed) and self.within_classes(house, changed)
                self.assertIs(is_book(house, changed), right)
                refused += not right
            for changed in (book[:at] + book[at + 1:], book[:at] + [book[at]] + book[at:], book[::-1],
                            book[:at] + [None] + book[at + 1:], book[:at] + [list(book[at])] + book[at + 1:]):
                self.assertIs(is_book(house, changed), False)
            more = ((room, 6 * great), (there, 6 * small))
            self.assertIs(is_book(house, sorted(book + [more])), True)
            self.assertTrue(is_book_here(house, sorted(book + [more])))
        self.assertGreater(refused, 100)

    def within_classes(self, house, rules):
        return all(rank(small) < rank(great) and are_moved(house, great, small) for great, small in rules)

    def test_what_is_no_book(self):
        for thing in ODD + ({BOOK[0]: BOOK[1]}, [BOOK], [((0, -3), (0, -2))]):
            self.assertIs(is_book(SINGLE, thing), False, thing)
        # These lead to one state what cannot be moved to one.
        self.assertIs(is_book(SINGLE, [((0, -2), (0, -1)), ((0, -1), (0, 1)), ((0, 2), (0, 1)), ((0, 3), (0, 1))]), False)
        self.assertIs(is_book(SINGLE, [((0, -3), (0, -2)), ((0, 3), (0, 2)), ((0, 5), (0, 4))]), False)
        self.assertIs(is_book(SINGLE, [((0, -3), (0, -2)), ((0, 3), (0, 2)), ((0, 9), (0, 4))]), True)

    def test_five_doors(self):
        for asked, more, wrong, error in (
                (book_of, (), (), None), (is_book, ([],), (None,), None), (least_state, ((0, 1),), ((0, 0),), BadState),
                (are_moved, ((0, 1), (0, 2)), ((0, 1), (0, 0)), BadState), (rule_way, (None,), (BOOK[0],), None),
                (moved_way, ((0, 1), (0, 2)), ((0, 1), None), BadState), (way_down, ((0, 1),), ((0, 0),), BadState)):
            with self.subTest(asked=asked.__name__):
                with self.assertRaises(TooMany) as caught:
                    asked(FIVE, *more)
                self.assertEqual(caught.exception.most, 4)
                with self.assertRaises(error or TooMany):
                    asked(FIVE, *wrong)
                with self.assertRaises(BadHouse):
                    asked(None, *wrong)
        self.assertEqual(led_by(FIVE, BOOK, (0, 3)), (0, 2))
        self.assertIs(is_rule(FIVE, BOOK[0]), True)


class Least(unittest.TestCase):
    def test_examples(self):
        self.assertEqual(least_state(SINGLE, (0, 12)), (0, 8))
        self.assertEqual(least_state(SINGLE, (0, 9)), (0, 4))
        self.assertEqual(way_down(SINGLE, (0, 9)), ((0, 1), (0, 1)))

    def test_the_least_of_all(self):
        many = 0
        for chance, house in few_doors(55, 250, numbers=(1, 2, 3, 4, 6)):
            state = some_state(chance, house)
            least = least_state(house, state)
            self.assertTrue(are_moved(house, state, least))
            if endless_pair(house, state) is None:
                found = class_of(house, state)
                self.assertEqual(least, min(found, key=rank))
                for other in chance.sample(found, min(3, len(found))):
                    self.moved(house, state, other)
                many += len(found) > 2
            else:
                for other in class_here(house, state, 60)[0]:
                    self.assertEqual(least_state(house, other), least)
                    self.moved(house, state, other)
        self.assertGreater(many, 20)

    def moved(self, house, state, other):
        self.assertIs(are_moved(house, state, other), True)
        way = moved_way(house, state, other)
        self.assertIsInstance(way, tuple)
        self.assertEqual(moved_by(house, state, way), other)

    def test_ways_of_great_numbers(self):
        for chance, house in few_doors(56, 100):
            room, number = some_state(chance, house)
            state = room, number * 2 ** chance.randint(0, 60) * 3 ** chance.randint(0, 30) * 5 ** chance.randint(0, 10)
            way = way_down(house, state)
            self.assertIsInstance(way, tuple)
            self.assertEqual(moved_by(house, state, way), least_state(house, state))
            self.assertEqual(way_down(house, least_state(house, state)), ())
            self.moved(house, state, least_state(house, state))
            self.moved(house, least_state(house, state), state)

    def test_states_that_cannot_be_moved_into_one_another(self):
        apart = 0
        for chance, house in few_doors(57, 150, numbers=(1, 2, 3, 4, 6)):
            state, other = some_state(chance, house), some_state(chance, house)
            found, whole = class_here(house, state, 3000)
            if whole or other in found:
                self.assertIs(are_moved(house, state, other), other in found)
                self.assertIs(are_moved(house, other, state), other in found)
                self.assertEqual(moved_way(house, state, other) is None, other not in found)
                apart += other not in found
        self.assertGreater(apart, 50)

    def test_a_state_and_itself(self):
        for chance, house in few_doors(58, 40):
            state = some_state(chance, house)
            self.moved(house, state, state)
        self.assertEqual(moved_way(ALONE, (0, 5), (0, 5)), ())
        self.assertIsNone(moved_way(ALONE, (0, 5), (0, -5)))
        self.assertIs(are_moved(ALONE, (0, 5), (0, 10)), False)
        self.assertEqual(least_state(ALONE, (0, -HUGE)), (0, -HUGE))

    def test_so_many_times_can_still_be_moved(self):
        self.assertEqual(least_state(SINGLE, (0, 1)), (0, 1))
        house = House(1, ((0, 5, 0, 9), (0, 3, 0, 2)))
        for number in range(1, 60):
            _, least = least_state(house, (0, number))
            for many in range(1, 12):
                self.assertIs(are_moved(house, (0, number * many), (0, least * many)), True)

    def test_wrong_states(self):
        for thing in ODD + ((0, 0), (2, 1), (0, True)):
            if thing != (0, 1):
                for asked, more in ((least_state, ()), (way_down, ()), (are_moved, (None,)), (moved_way, (None,))):
                    with self.assertRaises(BadState):
                        asked(PAIR, thing, *more)
                for asked in (are_moved, moved_way):
                    with self.assertRaises(BadState):
                        asked(PAIR, (0, 1), thing)

    def test_wrong_rules(self):
        for thing in ODD + (((0, 6), (0, 4)), list(BOOK[0]), ((0, 2), (0, 3)), ((0, 3), (0, True)), ((0, 3), (0, 1)),
                            BOOK, ((False, 3), (0, 2))):
            with self.assertRaises(BadRule):
                rule_way(SINGLE, thing)


if __name__ == "__main__":
    unittest.main()
