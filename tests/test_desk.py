"""[103] The desk: rows of words and what answers them."""

import random
import unittest

from pulledrooms.desk import Desk
from pulledrooms.errors import PullError
from pulledrooms.houses import House
from pulledrooms.strolls import Stroll
from pulledrooms.texts import walks_text
from tests.helper import HUGE, ODD, PAIR, SINGLE, all_passes, houses_by_chance

# Rows of all forms, those that want a stroll, and rows near to them.
RIGHT = ("pull 4", "pull -6", "pull 0", f"pull {HUGE}", f"pull -{HUGE}", "go 0 0", "go 0 1", "go 7 0", "go 0 2",
         "go -1 0", f"go {HUGE} 1", "undo", "redo", "start 0", "start 12", "start -1", f"start {HUGE}", "where", "place",
         "met", "home", "moment 0", "moment 99", "moment -1", f"moment {HUGE}")
WRONG = ("", " ", "pull", "pull ", "pull  4", " pull 4", "pull 4 ", "pull 4 4", "pull -0", "pull 04", "pull -04",
         "pull 00", "pull +4", "pull 4.0", "pull four", "pull - 4", "pull --4", "pull 4-", "pull 1e2", "pull 1_0",
         "pull \u0664", "pull \u00b2", f"pull {HUGE}0", f"pull -{HUGE}0", "pull 4\n", "pull\t4", "\tpull 4", "Pull 4",
         "PULL 4", "pull4", "pull True", "pull None", "pull 4,", "go", "go 0", "go 0 0 0", "go 0  0", "go 0 00",
         "go 00 0", "go -0 0", "go 0 >", "go 0>", "go 0,0", "go (0, 0)", f"go {HUGE}0 0", "undo ", " undo", "undo 1",
         "undo undo", "Undo", "undo\n", "redo 0", "redo ", "start", "start 00", "start -0", "start x", "start 0 0",
         "start  0", "where 0", "where ", "here", "place 0", "place ", "places", "met 0", "met ", "home 0", "home ",
         "homes", "moment", "moment 00", "moment -0", "moment 0 0", "moment x", "moment  0", "moments 0", "say",
         "stroll", "# pull 4", "None", "0", "4")
NO_HOUSE_ROWS = (
    "house", "house ", "house  1", "house 1 ", " house 1", "house 01", "house -0", "house x", "house 1 :", "house 1 : ",
    "house :", "house : 0 2 0 3", "house 1 0 2 0 3", "house 1 : 0 2 0", "house 1 : 0 2 0 3 4", "house 1 : 0 2 0 3 ,",
    "house 1 : 0 2 0 3 , ", "house 1 : , 0 2 0 3", "house 1 : 0 2 0 3 0 2 0 3", "house 1 : 0 2 0 3 : 0 2 0 3",
    "house 1 , 0 2 0 3", "house 1 : 0 2 0 3, 0 2 0 3", "house 1 : 0 2 0 3 ,0 2 0 3", "house 1: 0 2 0 3",
    "house 1 :0 2 0 3", "house 1 : 0 02 0 3", "house 1 : 0 2 -0 3", "house 1 : 0 2 0 x", "house 1 : 0 2  0 3",
    "house 1 : 0 2 0 3 , 0 2 0", "house 1 : 0 2 0 3 , 0 2 0 3 4", "house 1 1", "House 1", f"house 1 : 0 2 0 {HUGE}0",
    "house 1 : 0 2 0 3\n", "house 1 : 0 2 0 3 , , 0 2 0 3",
    # Of the right form, but no House.
    "house 0", "house 13", "house -1", "house 2", f"house {HUGE}", "house 1 : 0 0 0 3", "house 1 : 0 1000 0 3",
    "house 1 : 0 2 1 3", "house 1 : -1 2 0 3", "house 3 : 0 2 1 3", f"house 1 : 0 {HUGE} 0 3",
    "house 1 : " + " , ".join(["0 1 0 1"] * 21))


def house_row(house):
    doors = " , ".join(" ".join(str(number) for number in door) for door in house.doors)
    return f"house {house.rooms}" + (" : " + doors if doors else "")


def desk_with(*rows):
    desk = Desk()
    for row in rows:
        assert desk.say(row) == "done", row
    return desk


class Rows(unittest.TestCase):
    def unchanged(self, desk, row, answer):
        """The row is answered so, and changes nothing."""
        stroll = desk.stroll
        kept = None if stroll is None else stroll.copy()
        self.assertEqual(desk.say(row), answer, repr(row))
        self.assertIs(desk.stroll, stroll)
        self.assertEqual(desk.stroll, kept)

    def test_ahead_of_a_stroll(self):
        desk = Desk()
        self.assertIsNone(desk.stroll)
        for row in RIGHT:
            self.unchanged(desk, row, "no house")
        for row in WRONG + NO_HOUSE_ROWS + ODD:
            self.unchanged(desk, row, "wrong")

    def test_behind_it(self):
        desk = desk_with("house 1 : 0 2 0 3", "pull 4", "go 0 0", "undo")
        for row in WRONG + NO_HOUSE_ROWS + ODD + (b"undo", Desk(), ("pull", 4), ["undo"], 1.5):
            self.unchanged(desk, row, "wrong")
        for row in ("go 7 0", "go 0 2", "go -1 0", "go 1 0", f"go {HUGE} 1", "start 1", "start 12", "start -1",
                    f"start {HUGE}", "moment 2", "moment 99", "moment -1", f"moment {HUGE}"):
            self.unchanged(desk, row, "no")
        # What was refused left what can be done again.
        self.assertEqual(desk.say("redo"), "done")
        self.unchanged(desk, "redo", "no")
        for row, answer in (("where", "room 0 away 1"), ("place", "0 0 0> 6"), ("met", "2"), ("home", "no")):
            self.unchanged(desk, row, answer)

    def test_example(self):
        desk = Desk()
        for row, answer in zip(("house 1 : 0 2 0 3", "pull 4", "go 0 0", "pull -6", "go 0 1", "home", "met", "where"),
                               ("done",) * 5 + ("yes", "0 4", "room 0 away 0")):
            self.assertEqual(desk.say(row), answer)
        self.assertEqual(desk.say("place"), "0 0")

    def test_houses(self):
        for _, house in houses_by_chance(200, 60, numbers=(1, 2, 999)):
            desk = desk_with("house 1 : 0 2 0 3", "pull 4", house_row(house))
            self.assertEqual(desk.stroll, Stroll(house, 0))
            self.assertEqual(desk.say("undo"), "no")
        line = " , ".join(f"0 1 {room} -1" for room in range(1, 12))
        desk = desk_with("house 12 : " + line, "start 11", "go 10 1")
        self.assertEqual((desk.stroll.here(), desk.stroll.start), (0, 11))
        self.assertEqual(desk_with("house 1").stroll, Stroll(House(1, ()), 0))
        self.assertEqual(len(desk_with("house 1 : " + " , ".join(["0 1 0 1"] * 20)).stroll.house.doors), 20)

    def test_start(self):
        desk = desk_with("house 2 : 0 2 1 3 , 1 1 1 -2", "pull 4", "go 0 0", "undo", "start 1")
        self.assertEqual(desk.stroll, Stroll(PAIR, 1))
        for row in ("undo", "redo"):
            self.unchanged(desk, row, "no")
        self.assertEqual(desk.say("where"), "room 1 away 0")
        self.assertEqual(desk.say("start 0"), "done")
        self.assertEqual(desk.say("where"), "room 0 away 0")

    def test_moments_and_redo(self):
        desk = desk_with("house 1 : 0 2 0 3", "pull 4", "go 0 0", "pull -6", "go 0 1", "pull 1")
        whole = desk.stroll.copy()
        for moment in (5, 3, 0):
            self.assertEqual(desk.say(f"moment {moment}"), "done")
            self.assertEqual(desk.stroll.deeds(), whole.deeds()[:moment])
        self.unchanged(desk, "moment 1", "no")
        self.unchanged(desk, "undo", "no")
        for many in range(1, 6):
            self.assertEqual(desk.say("redo"), "done")
            self.assertEqual(desk.stroll.deeds(), whole.deeds()[:many])
        self.unchanged(desk, "redo", "no")
        self.assertEqual(desk.say("moment 2"), "done")
        self.assertEqual(desk.say("pull 1"), "done")
        self.unchanged(desk, "redo", "no")
        self.assertEqual(desk.say("moment 3"), "done")
        self.unchanged(desk, "moment 4", "no")

    def test_sixty_passes_and_more(self):
        desk = desk_with("house 1 : 0 2 0 3", *["go 0 0"] * 60)
        self.unchanged(desk, "go 0 0", "no")
        self.unchanged(desk, "where", "room 0 away 60")
        self.assertEqual(desk.say("undo"), "done")
        self.assertEqual(desk.say("go 0 1"), "done")
        self.unchanged(desk, "where", "room 0 away 58")

    def test_rows_left_to_chance(self):
        answers = set()
        for chance, house in houses_by_chance(201, 60, numbers=(1, 2, 3), most_rooms=3):
            desk, stroll = desk_with(house_row(house)), Stroll(house, 0)
            for _ in range(40):
                stroll = self.said(chance, desk, stroll, answers)
                self.assertEqual(desk.stroll, stroll)
        self.assertLessEqual({"done", "no", "yes", "0", "room 0 away 0", "room 1 away 2", "0 0"}, answers)

    def said(self, chance, desk, stroll, answers):
        """Says a row left to chance and judges the answer by a stroll of the test's own, which is told."""
        word = chance.choice(("pull", "pull", "go", "go", "go", "undo", "redo", "start", "where", "place", "met",
                              "home", "moment"))
        told = {"pull": [chance.choice((0, 1, -2, 3, 6))], "start": [chance.randint(0, 3)],
                "go": list(chance.choice(all_passes(stroll.house) or [(0, 0)])), "moment": [chance.randint(0, 12)]}
        numbers = told.get(word, [])
        if word == "start" and chance.random() < 0.8:
            return stroll
        answer = desk.say(" ".join([word] + [str(number) for number in numbers]))
        answers.add(answer)
        asked = {"where": f"room {stroll.here()} away {stroll.away()}",
                 "place": walks_text(stroll.house, [stroll.plain()])[:-1],
                 "met": " ".join(str(moment) for moment in stroll.met(len(stroll))),
                 "home": "yes" if stroll.is_back() else "no"}
        if word in asked:
            self.assertEqual(answer, asked[word])
            return stroll
        try:
            if word == "start":
                stroll = Stroll(stroll.house, numbers[0])
            elif word == "moment":
                stroll.place_at(numbers[0])
                while len(stroll) > numbers[0]:
                    stroll.undo()
            else:
                {"pull": stroll.pull, "go": lambda *step: stroll.go(step), "undo": stroll.undo,
                 "redo": stroll.redo}[word](*numbers)
            self.assertEqual(answer, "done")
        except PullError:
            self.assertEqual(answer, "no")
        return stroll

    def test_two_desks(self):
        one, other = desk_with("house 1 : 0 2 0 3", "pull 4"), Desk()
        self.assertEqual(other.say("where"), "no house")
        self.assertIsNone(other.stroll)
        self.assertEqual(one.stroll.house, SINGLE)
        self.assertFalse(one == other or one == one.stroll)
        chance = random.Random(202)
        for _ in range(3):
            times = chance.randint(-HUGE, HUGE)
            self.assertEqual(one.say(row=f"pull {times}"), "done")
            self.assertEqual(one.stroll.deeds()[-1], ("pull", times))


if __name__ == "__main__":
    unittest.main()
