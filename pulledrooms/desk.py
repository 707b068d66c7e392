"""A desk: a stroll that is led by rows of words, and answers with words."""

from pulledrooms.errors import BadMoment, PullError
from pulledrooms.houses import House
from pulledrooms.strolls import Stroll
from pulledrooms.texts import told_number, walks_text

# How many NUMBERs follow the first word of a row, for all rows but that of a house.
ROWS = {"pull": 1, "go": 2, "undo": 0, "redo": 0, "start": 1, "where": 0, "place": 0, "met": 0, "home": 0, "moment": 1}
ASKED = ("where", "place", "met", "home")


class Desk:
    """A desk with a stroll, or with None at first."""

    def __init__(self):
        self.stroll = None

    def say(self, row):
        """The answer to the row, any value."""
        if not isinstance(row, str):
            return "wrong"
        words = row.split(" ")
        if words[0] == "house":
            return self._house(words[1:])
        numbers = [_number(word) for word in words[1:]]
        if len(numbers) != ROWS.get(words[0]) or None in numbers:
            return "wrong"
        if self.stroll is None:
            return "no house"
        if words[0] in ASKED:
            return self._answer(words[0])
        try:
            self._do(words[0], numbers)
        except PullError:
            return "no"
        return "done"

    def _house(self, words):
        """Begins a stroll in the house that the words tell, if they tell one."""
        told = _told_house(words)
        if told is None:
            return "wrong"
        try:
            self.stroll = Stroll(House(told[0], told[1]), 0)
        except PullError:
            return "wrong"
        return "done"

    def _do(self, word, numbers):
        """Does what the word tells; raises an error below PullError if it cannot be done."""
        if word == "pull":
            self.stroll.pull(numbers[0])
        elif word == "go":
            self.stroll.go((numbers[0], numbers[1]))
        elif word == "undo":
            self.stroll.undo()
        elif word == "redo":
            self.stroll.redo()
        elif word == "start":
            self.stroll = Stroll(self.stroll.house, numbers[0])
        else:
            self._take_back(numbers[0])

    def _take_back(self, moment):
        """Takes the stroll back to the moment; raises BadMoment if it is none of it."""
        many = len(self.stroll)
        if not 0 <= moment <= many:
            raise BadMoment("no moment of the stroll")
        for _ in range(many - moment):
            self.stroll.undo()

    def _answer(self, word):
        """What is asked for by the word."""
        if word == "where":
            return f"room {self.stroll.here()} away {self.stroll.away()}"
        if word == "place":
            return walks_text(self.stroll.house, [self.stroll.plain()]).strip("\n")
        if word == "met":
            return " ".join([str(moment) for moment in self.stroll.met(len(self.stroll))])
        return "yes" if self.stroll.is_back() else "no"


def _number(word):
    """The number that a NUMBER tells, or None for another word."""
    number = told_number(word)
    # A number word may have needless zeros, a NUMBER has none.
    return number if str(number) == word else None


def _told_house(words):
    """(rooms, doors) that the words behind "house" tell, perhaps of no House, or None if they are of another form.

    What is no NUMBER is told as None, which is refused by House, and so are doors of fewer numbers.
    """
    rooms = _number(words[0]) if words else None
    doors = []
    # Each door has four numbers and, ahead of them, ":" or ",".
    for at in range(1, len(words), 5):
        if words[at] != (":" if at == 1 else ","):
            return None
        doors.append(tuple([_number(word) for word in words[at + 1:at + 5]]))
    return (rooms, tuple(doors))
