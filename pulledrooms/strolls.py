"""Strolls: somebody who walks through a house, deed by deed, and where it stood before."""

from pulledrooms.checks import is_number, is_number_within
from pulledrooms.errors import BadHall, BadMoment, BadNumber, BadPass, NoDeed, TooMany
from pulledrooms.forms import plain_form
from pulledrooms.halls import Hall, need_seat, places_along, seat_led
from pulledrooms.houses import ends_of, is_pass, need_house, need_room
from pulledrooms.walks import backwards, joined_up, last_room

MOST_GONE = 60


class Stroll:
    """Somebody who stands in a room of a house and walks on by deeds ("pull", times) and ("go", pass)."""

    def __init__(self, house, room):
        need_house(house)
        need_room(house, room)
        self.house = house
        self.start = room
        self._done = []
        self._undone = []

    def __len__(self):
        return len(self._done)

    def __eq__(self, other):
        return (isinstance(other, Stroll) and self.house == other.house and self.start == other.start
                and self._done == other._done)

    def pull(self, times):
        """Pulls so many times where it stands."""
        if not is_number(times):
            raise BadNumber("times is no number")
        self._do(("pull", times))

    def go(self, step):
        """Goes by the pass."""
        if not is_pass(self.house, step) or ends_of(self.house, step)[0] != self.here():
            raise BadPass("step is no pass that leads from where it stands")
        if len(self.so_far()[2]) == MOST_GONE:
            raise TooMany(MOST_GONE)
        self._do(("go", step))

    def undo(self):
        """Takes the last deed away."""
        if not self._done:
            raise NoDeed("there is no deed to undo")
        self._undone.append(self._done.pop())

    def redo(self):
        """Does again the deed that was undone last."""
        if not self._undone:
            raise NoDeed("there is no deed to do again")
        self._done.append(self._undone.pop())

    def deeds(self):
        """The list of the deeds in order."""
        return list(self._done)

    def so_far(self):
        """The walk of all deeds."""
        return self._walks()[-1]

    def here(self):
        """The room in which it stands."""
        return last_room(self.house, self.so_far())

    def plain(self):
        """The plain form of the walk of all deeds: the place where it stands."""
        return plain_form(self.house, self.so_far())

    def away(self):
        """The number of passes of plain()."""
        return len(self.plain()[2])

    def is_back(self):
        """Whether the walk of all deeds is nothing."""
        return self.plain() == (self.start, (0,), ())

    def copy(self):
        """A new stroll that stands where this one does, with the same deeds done and undone."""
        other = Stroll(self.house, self.start)
        other._done = list(self._done)
        other._undone = list(self._undone)
        return other

    def place_at(self, moment):
        """The place at which it stood at the moment."""
        self._need_moment(moment)
        return self._places()[moment]

    def first_here(self):
        """The least moment at which it stood where it stands now."""
        places = self._places()
        return places.index(places[-1])

    def met(self, moment):
        """The ascending list of all moments at which it stood at the place of this moment."""
        self._need_moment(moment)
        places = self._places()
        return [at for at, place in enumerate(places) if place == places[moment]]

    def way_to(self, moment):
        """The plain walk that leads from where it stands to the place of the moment."""
        self._need_moment(moment)
        walks = self._walks()
        return plain_form(self.house, joined_up(backwards(self.house, walks[-1]), walks[moment]))

    def farthest(self):
        """(least moment at which it was farthest away, how many passes away it was)."""
        passes = [len(place[2]) for place in self._places()]
        most = max(passes)
        return (passes.index(most), most)

    def round_trips(self):
        """The ascending list of all pairs of moments at which it stood at one place, and at none between."""
        last = {}
        pairs = []
        for moment, place in enumerate(self._places()):
            if place in last:
                pairs.append((last[place], moment))
            last[place] = moment
        return sorted(pairs)

    def seat_of(self, hall, seat):
        """The seat to which the walk of all deeds leads the seat."""
        self._need_seat(hall, seat)
        walk = self.so_far()
        return seat_led(hall, places_along(hall, walk), walk, seat)

    def seats_met(self, hall, seat):
        """The list of the seats to which the walks up to all moments lead the seat."""
        self._need_seat(hall, seat)
        places = places_along(hall, self.so_far())
        return [seat_led(hall, places, walk, seat) for walk in self._walks()]

    def _do(self, deed):
        """Does the deed; nothing is left to be done again."""
        self._done.append(deed)
        self._undone = []

    def _walks(self):
        """The walks up to all moments."""
        walk = (self.start, (0,), ())
        walks = [walk]
        for word, what in self._done:
            room, pulls, passes = walk
            if word == "pull":
                walk = (room, pulls[:-1] + (pulls[-1] + what,), passes)
            else:
                walk = (room, pulls + (0,), passes + (what,))
            walks.append(walk)
        return walks

    def _places(self):
        """The places at all moments."""
        return [plain_form(self.house, walk) for walk in self._walks()]

    def _need_moment(self, moment):
        """Raises BadMoment unless moment is one of the stroll."""
        if not is_number_within(moment, 0, len(self._done)):
            raise BadMoment("no moment of the stroll")

    def _need_seat(self, hall, seat):
        """Raises BadHall unless hall is a Hall of the house, or BadSeat unless seat is one of it."""
        if not isinstance(hall, Hall) or hall.house != self.house:
            raise BadHall("hall is no Hall of the house")
        need_seat(hall, seat)
