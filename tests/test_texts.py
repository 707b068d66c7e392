"""[12] Texts of houses and of walks."""

import unittest

from pulledrooms.errors import Apart, BadHouse, BadText, BadWalks
from pulledrooms.houses import House
from pulledrooms.texts import house_text, read_house, read_walks, walks_text
from tests.helper import ALONE, HUGE, ODD, PAIR, RING, SINGLE, houses_by_chance, some_walk

FIVE = House(1, ((0, 1, 0, 1),) * 5)
NO_TEXTS = tuple(thing for thing in ODD if not isinstance(thing, str)) + (b"rooms 1\n", ["rooms 1"], ("rooms 1",))
NINES = "9" * 60


class TextTest(unittest.TestCase):
    def line_of(self, read, *args):
        with self.assertRaises(BadText) as caught:
            read(*args)
        return caught.exception.line

    def wrong_house(self, text, line):
        with self.subTest(text=text):
            self.assertEqual(self.line_of(read_house, text), line)

    def wrong_walks(self, house, text, line):
        with self.subTest(text=text):
            self.assertEqual(self.line_of(read_walks, house, text), line)


class HouseText(TextTest):
    def test_example(self):
        self.assertEqual(house_text(SINGLE), "rooms 1\ndoor 0 2 0 3\n")
        self.assertEqual(read_house("rooms 1\ndoor 0 2 0 3\n"), SINGLE)

    def test_values(self):
        self.assertEqual(house_text(ALONE), "rooms 1\n")
        self.assertEqual(house_text(PAIR), "rooms 2\ndoor 0 2 1 3\ndoor 1 1 1 -2\n")
        twelve = House(12, tuple((room, -999, room + 1, 999) for room in range(11)))
        self.assertEqual(house_text(twelve).split("\n")[:2], ["rooms 12", "door 0 -999 1 999"])
        self.assertEqual(house_text(twelve).split("\n")[-2:], ["door 10 -999 11 999", ""])

    def test_there_and_back(self):
        for _, house in houses_by_chance(20, 100, numbers=(1, 2, 30, 999), most_rooms=12, most_more=9):
            self.assertEqual(read_house(house_text(house)), house)

    def test_twenty_doors(self):
        house = House(1, ((0, 7, 0, -8),) * 20)
        self.assertEqual(read_house(house_text(house)), house)


class ReadHouse(TextTest):
    def test_told_otherwise(self):
        for text in (
            "rooms 1\ndoor 0 2 0 3", "  rooms   1  \n   door 0  2   0 3   ", "\n\nrooms 1\n\n   \ndoor 0 2 0 3\n\n\n",
            "# a house\nrooms 1\n  #door 0 0 0 0\ndoor 0 2 0 3\n#", "rooms 001\ndoor -0 02 00 0003\n",
            "rooms 01\ndoor 0 2 -00 3\n", "#\t\nrooms 1\n# \x0b \r\ndoor 0 2 0 3",
            "rooms " + "0" * 59 + "1\ndoor -" + "0" * 60 + " 2 0 " + "0" * 59 + "3",
        ):
            with self.subTest(text=text):
                self.assertEqual(read_house(text), SINGLE)
        self.assertEqual(read_house("rooms 1\ndoor 0 -007 0 3"), House(1, ((0, -7, 0, 3),)))

    def test_no_string_and_no_saying(self):
        for text in NO_TEXTS + ("", "\n", "   ", "#", "# rooms 1\n", "\n \n#rooms 1\n   # x"):
            self.wrong_house(text, 0)

    def test_the_first_saying(self):
        for line in ("rooms", "rooms 1 1", "rooms 0", "rooms 13", "rooms -1", "rooms -0", "rooms x", "rooms +1",
                     "rooms 1.0", "rooms 1_0", "room 1", "Rooms 1", "1", "door 0 2 0 3", "rooms \t1", "rooms\t1",
                     "rooms 1\r", "\trooms 1", "rooms 1 # one", "rooms \u0661", "rooms \u00b2", "rooms --1", "rooms -",
                     "rooms 1\x0b", "rooms 1\x0c", "rooms\u00a01", "x", "\t", "\r", "rooms " + NINES, "1 rooms",
                     "rooms " + "0" * 60 + "1"):
            self.wrong_house(line, 1)
            self.wrong_house("\n# no\n  \n" + line + "\nrooms 1", 4)

    def test_line_feeds_alone_part_lines(self):
        for mark in ("\r", "\x0b", "\x0c", "\x85", "\u2028", "\x1c"):
            self.wrong_house("rooms 1" + mark + "door 0 2 0 3", 1)
            self.assertEqual(read_house("# rooms 2" + mark + "rooms 3\nrooms 1"), ALONE)

    def test_the_rooms_edges(self):
        self.assertEqual(read_house("rooms 1").rooms, 1)
        doors = "".join(f"door {room} 1 {room + 1} 1\n" for room in range(11))
        self.assertEqual(read_house("rooms 12\n" + doors).rooms, 12)

    def test_door_lines(self):
        for line in ("door", "door 0 2 0", "door 0 2 0 3 4", "door 0 2 1 3", "door 1 2 0 3", "door -1 2 0 3",
                     "door 0 0 0 3", "door 0 2 0 0", "door 0 1000 0 3", "door 0 2 0 -1000", "door 0 2 0 -0",
                     "door 0 2 0 x", "door 0 2 0 3\t", "door 0 2\t0 3", "doors 0 2 0 3", "rooms 1", "0 2 0 3",
                     "door 0 2 0 +3", "door 0 2 0 3.0", "door 0 -1000 0 3", "door 0 2 0 1000", "door - 2 0 3",
                     "door 0 2 0 \u0663", "door 0 2 0 3#", "door 0 2 0 3 #", "door " + NINES + " 2 0 3",
                     "0 2 0 3 door", "Door 0 2 0 3", "door 0 2 0 " + "0" * 60 + "3", "door 0 " + NINES + " 0 3"):
            self.wrong_house("rooms 1\n" + line, 2)
            self.wrong_house("\nrooms 1\n#\ndoor 0 2 0 3\n\n" + line + "\ndoor", 6)

    def test_door_edges(self):
        self.assertEqual(read_house("rooms 1\ndoor 0 999 0 -999").doors, ((0, 999, 0, -999),))
        self.assertEqual(read_house("rooms 1\ndoor 0 -999 0 999").doors, ((0, -999, 0, 999),))

    def test_the_twenty_first_door(self):
        twenty = "rooms 1\n" + "door 0 1 0 1\n" * 20
        self.assertEqual(len(read_house(twenty).doors), 20)
        self.wrong_house(twenty + "\n#\ndoor 0 1 0 1\n", 24)
        self.wrong_house(twenty + "door 0 1 0 1\ndoor 0 1 0 1\n", 22)
        self.assertEqual(len(read_house(twenty + "# door 0 1 0 1").doors), 20)

    def test_apart_only_when_all_lines_are_right(self):
        with self.assertRaises(Apart) as caught:
            read_house("rooms 4\ndoor 0 1 1 1\ndoor 2 1 3 1\n")
        self.assertEqual(caught.exception.room, 2)
        with self.assertRaises(Apart) as caught:
            read_house("rooms 2")
        self.assertEqual(caught.exception.room, 1)
        self.wrong_house("rooms 4\ndoor 0 1 1 1\nx", 3)


class WalksText(TextTest):
    def test_example(self):
        walk = (0, (3, -1, 0), ((2, 0), (4, 1)))
        self.assertEqual(walks_text(FIVE, [walk]), "0 3 2> -1 4< 0\n")
        self.assertEqual(read_walks(FIVE, "0 3 2> -1 4< 0\n"), [walk])

    def test_values(self):
        self.assertEqual(walks_text(FIVE, []), "")
        self.assertEqual(walks_text(FIVE, ()), "")
        self.assertEqual(read_walks(FIVE, ""), [])
        two = ((1, (5,), ()), (0, (0, -7), ((0, 0),)))
        for walks in (two, list(two)):
            self.assertEqual(walks_text(PAIR, walks), "1 5\n0 0 0> -7\n")
        self.assertEqual(walks_text(PAIR, two[::-1]), "0 0 0> -7\n1 5\n")
        self.assertEqual(walks_text(SINGLE, [(0, (HUGE,), ())]), "0 " + NINES + "\n")

    def test_there_and_back(self):
        for chance, house in houses_by_chance(21, 60):
            walks = [some_walk(chance, house, chance.randint(0, 9), pulls=(-HUGE, HUGE))
                     for _ in range(chance.randint(0, 4))]
            self.assertEqual(read_walks(house, walks_text(house, walks)), walks)

    def test_two_digits_of_a_door(self):
        house = House(1, ((0, 1, 0, 1),) * 20)
        walk = (0, (0, 1, 2), ((19, 1), (10, 0)))
        self.assertEqual(walks_text(house, [walk]), "0 0 19< 1 10> 2\n")
        self.assertEqual(read_walks(house, "0 0 19< 1 10> 2\n"), [walk])

    def test_wrong_walks(self):
        good = (0, (0,), ())
        for walks in tuple(thing for thing in ODD if thing != [] and thing != ()) + (
            [good, None], [(0, (0, 0), ())], [[0, (0,), ()]], [(True, (0,), ())], {good: good}, {0: good}, good,
            [good, (0, (True,), ())], [(6, (0,), ())], [[good]], (good, ()),
        ):
            with self.subTest(walks=walks), self.assertRaises(BadWalks):
                walks_text(RING, walks)


class ReadWalks(TextTest):
    def test_told_otherwise(self):
        for text in ("0 3 2> -1 4< 0", "  0   3 2>  -1 4<  0  ", "\n# walks\n0 3 2> -1 4< 0\n\n", "0 03 02> -001 4< -0",
                     "-0 3 0002> -1 4< 00\n#", "#\t\n0 3 2> -1 4< 0"):
            with self.subTest(text=text):
                self.assertEqual(read_walks(FIVE, text), [(0, (3, -1, 0), ((2, 0), (4, 1)))])

    def test_no_walks(self):
        for text in ("", "\n", "  \n \n", "# 0 0", "#\n#x\n"):
            self.assertEqual(read_walks(FIVE, text), [])

    def test_no_string(self):
        for text in NO_TEXTS:
            self.wrong_walks(FIVE, text, 0)

    def test_wrong_lines(self):
        for line in ("0", "0 3 2>", "0 3 2> 1 4<", "0 2> 1", "3 2> 1", "0 3 2 1", "0 3 > 1", "0 3 2>> 1", "0 3 -2> 1",
                     "0 3 >2 1", "0 3 2>1", "0 3 2 > 1", "0 x", "x 0", "0 3 -0> 1", "0 3 5> 1", "1 3", "-1 3",
                     "0 3 x> 1", "0 3\t2> 1", "0 3 2> 1\r", "0 3 4", "0 +3", "0 3.0", "0 \u0663", "0 3 \u0662> 1",
                     "0> 3", "0 3 2> -",
                     "0 3 2>\t1", "walk 0 3", "0 3 # home", "0 3 2= 1", "0 3 2_0> 1", "\t", "-", "0 --3", "0 3 +2> 1"):
            self.wrong_walks(FIVE, line, 1)
            self.wrong_walks(FIVE, "\n0 0\n # x\n\n" + line + "\n0 x\n", 5)

    def test_no_walk_of_the_house(self):
        for line in ("1 0 0> 0", "0 0 0< 0", "0 0 0> 0 0> 0", "2 0", "0 0 2> 0", "0 0 1> 0"):
            self.wrong_walks(PAIR, "0 0 0> 0\n" + line, 2)
        self.wrong_walks(ALONE, "0 0 0> 0", 1)

    def test_digits(self):
        self.assertEqual(read_walks(SINGLE, "0 -" + NINES), [(0, (-HUGE,), ())])
        self.wrong_walks(SINGLE, "0 1" + NINES, 1)
        self.wrong_walks(SINGLE, "0 -1" + NINES, 1)
        self.assertEqual(read_walks(SINGLE, "0 " + "0" * 60), [(0, (0,), ())])
        self.wrong_walks(SINGLE, "0 " + "0" * 61, 1)
        zeros = "0" * 60
        self.assertEqual(read_walks(SINGLE, f"{zeros} 0 {zeros}> 0"), [(0, (0, 0), ((0, 0),))])
        self.wrong_walks(SINGLE, f"0{zeros} 0", 1)
        self.wrong_walks(SINGLE, f"0 0 0{zeros}> 0", 1)

    def test_sixty_passes_and_one_more(self):
        self.assertEqual(len(read_walks(SINGLE, "0 0" + " 0> 0" * 60)[0][2]), 60)
        self.wrong_walks(SINGLE, "0 0\n0 0" + " 0> 0" * 61, 2)

    def test_line_feeds_alone_part_lines(self):
        for mark in ("\r", "\x0b", "\x0c", "\x85", "\u2028"):
            self.wrong_walks(FIVE, "0 0" + mark + "0 0", 1)
            self.wrong_walks(FIVE, "0 0 " + mark + " 0 0", 1)

    def test_order_of_the_errors(self):
        for house in (None, 1, "rooms 1"):
            for asked in (read_walks, walks_text):
                with self.assertRaises(BadHouse):
                    asked(house, None)


if __name__ == "__main__":
    unittest.main()
