"""The errors of the package: all stand directly below PullError."""


class PullError(ValueError):
    """What is refused."""


class Apart(PullError):
    """Doors do not join all rooms: none lead to room from room 0."""

    def __init__(self, room):
        super().__init__(f"no doors lead from room 0 to room {room}")
        self.room = room


class BadChange(PullError):
    """What is no change of the house."""


class BadChanges(PullError):
    """What is no list of changes, each of what the one before leads to."""


class BadDoors(PullError):
    """What is no tuple of doors."""


class BadFitting(PullError):
    """What are no fitting numbers of the house."""


class BadHall(PullError):
    """What is no Hall."""


class BadHouse(PullError):
    """What is no House."""


class BadMany(PullError):
    """A number of how many that is not let."""


class BadMoment(PullError):
    """What is no moment of the stroll."""


class BadMost(PullError):
    """A number of how many at most that is not let."""


class BadMove(PullError):
    """What is no move that can be done."""


class BadNumber(PullError):
    """What is no number."""


class BadPairing(PullError):
    """What is no pairing of the pattern."""


class BadPass(PullError):
    """What is no pass of the house."""


class BadPattern(PullError):
    """What is no pattern of the house."""


class BadPrime(PullError):
    """What is no prime number that is let."""


class BadRoom(PullError):
    """What is no room of the house."""


class BadRooms(PullError):
    """What is no number of rooms."""


class BadRopes(PullError):
    """What are no ropes of the house."""


class BadRows(PullError):
    """What is no list of rows."""


class BadRule(PullError):
    """What is no rule of the book."""


class BadRules(PullError):
    """What is no list of rules."""


class BadSeat(PullError):
    """What is no seat of the hall."""


class BadSeats(PullError):
    """A number of seats that is not let."""


class BadSingle(PullError):
    """What is no House with one room and one door."""


class BadSpot(PullError):
    """What is no spot of the walk."""


class BadState(PullError):
    """What is no state of the house."""


class BadText(PullError):
    """A text whose line of this number is wrong, or none for 0."""

    def __init__(self, line):
        super().__init__(f"wrong text, line {line}")
        self.line = line


class BadTimes(PullError):
    """A number of times that is not let."""


class BadWalk(PullError):
    """What is no walk of the house."""


class BadWalks(PullError):
    """What is no list of walks of the house."""


class BadWays(PullError):
    """What are no ways of the house."""


class BadWide(PullError):
    """What are no wide pulls, or no wide walk."""


class Elsewhere(PullError):
    """Two things that do not meet where they must."""


class Keeps(PullError):
    """A walk that keeps, where one that goes is wanted."""


class NoCore(PullError):
    """A walk that is no core, where one is wanted."""


class NoDeed(PullError):
    """There is no deed to undo or to do again."""


class NotHome(PullError):
    """A walk that does not come home, where it must."""


class NotWithin(PullError):
    """A walk that does not lead the seat to itself."""


class TooMany(PullError):
    """More than the most that are let."""

    def __init__(self, most):
        super().__init__(f"more than {most}")
        self.most = most


class Torn(PullError):
    """A hall in which the two sides of door do not lead alike."""

    def __init__(self, door):
        super().__init__(f"the ropes do not fit door {door}")
        self.door = door
