"""The errors of the interface."""

import unittest

from pulledrooms import errors

PLAIN = """BadChange BadChanges BadDoors BadFitting BadHall BadHouse BadMany BadMoment BadMost BadMove BadNumber
BadPairing BadPass BadPattern BadPrime BadRoom BadRooms BadRopes BadRows BadRule BadRules BadSeat BadSeats BadSingle
BadSpot BadState BadTimes BadWalk BadWalks BadWays BadWide Elsewhere Keeps NoCore NoDeed NotHome NotWithin""".split()
TOLD = {"Apart": "room", "BadText": "line", "TooMany": "most", "Torn": "door"}


class Errors(unittest.TestCase):
    def test_pull_error_is_a_value_error(self):
        self.assertEqual(errors.PullError.__bases__, (ValueError,))

    def test_each_stands_directly_below_pull_error(self):
        for name in PLAIN + list(TOLD):
            with self.subTest(name=name):
                self.assertEqual(getattr(errors, name).__bases__, (errors.PullError,))
                self.assertEqual(getattr(errors, name).__module__, "pulledrooms.errors")

    def test_there_are_no_others(self):
        found = [name for name, thing in vars(errors).items() if isinstance(thing, type)]
        self.assertEqual(sorted(found), sorted(PLAIN + list(TOLD) + ["PullError"]))

    def test_attributes_by_position_and_by_name(self):
        for name, attribute in TOLD.items():
            with self.subTest(name=name):
                error = getattr(errors, name)
                self.assertEqual(getattr(error(3), attribute), 3)
                self.assertEqual(getattr(error(**{attribute: 4}), attribute), 4)

    def test_the_others_are_made_of_any_text(self):
        for name in PLAIN + ["PullError"]:
            with self.subTest(name=name):
                for text in ("", "any text", "two\nlines"):
                    self.assertEqual(str(getattr(errors, name)(text)), text)

    def test_each_can_be_caught_as_pull_error_and_as_value_error(self):
        for name in PLAIN + list(TOLD):
            for above in (errors.PullError, ValueError):
                with self.subTest(name=name, above=above), self.assertRaises(above):
                    raise getattr(errors, name)(1)


if __name__ == "__main__":
    unittest.main()
