"""Halls: finitely many seats, led about by ropes and ways so that all doors fit."""

from itertools import permutations
from math import factorial, gcd

from pulledrooms.checks import is_number_within, is_tuple_of
from pulledrooms.errors import BadHall, BadMost, BadRopes, BadSeat, BadSeats, BadWays, Elsewhere, TooMany, Torn
from pulledrooms.houses import ends_of, need_house
from pulledrooms.ratios import ways_from_first
from pulledrooms.walks import need_home, need_walk, room_after

MOST_SEATS = 5
MOST_ARRANGED = 4000
MOST_PARTING = 3
MOST_PARTED = 6


class Hall:
    """Seats, a rope for each room and a way for each door of a house, which are arrangements of the seats."""

    def __init__(self, house, ropes, ways):
        need_house(house)
        if not isinstance(ropes, tuple) or not _are_ropes(house, ropes):
            raise BadRopes("ropes is no tuple with an arrangement for each room")
        seats = len(ropes[0])
        if not is_tuple_of(ways, len(house.doors)) or not all([_is_arrangement(seats, way) for way in ways]):
            raise BadWays("ways is no tuple with an arrangement of as many seats for each door")
        torn = _least_torn(house, ropes, ways)
        if torn is not None:
            raise Torn(torn)
        self.house = house
        self.ropes = ropes
        self.ways = ways
        self.seats = seats

    def __eq__(self, other):
        return (isinstance(other, Hall) and self.house == other.house and self.ropes == other.ropes
                and self.ways == other.ways)


def _are_ropes(house, ropes):
    """Whether the tuple ropes has an arrangement for each room, all of as many seats."""
    if len(ropes) != house.rooms or not isinstance(ropes[0], tuple) or ropes[0] == ():
        return False
    return all([_is_arrangement(len(ropes[0]), rope) for rope in ropes])


def _is_arrangement(seats, thing):
    """Whether thing is an arrangement of so many seats."""
    if not is_tuple_of(thing, seats) or not all([is_number_within(seat, 0, seats - 1) for seat in thing]):
        return False
    return len({seat: True for seat in thing}) == seats


def _least_torn(house, ropes, ways):
    """The least door at which pulls and the pass do not lead as the pass and pulls do, or None."""
    for door, numbers in enumerate(house.doors):
        if not _fitting_ways(numbers, ropes, [ways[door]]):
            return door
    return None


def need_hall(hall):
    """Raises BadHall unless hall is a Hall."""
    if not isinstance(hall, Hall):
        raise BadHall("hall is no Hall")


def need_like_halls(hall, other):
    """Raises BadHall for each, or Elsewhere if their houses are unlike."""
    need_hall(hall)
    need_hall(other)
    if hall.house != other.house:
        raise Elsewhere("the halls are of unlike houses")


def need_seat(hall, seat):
    """Raises BadSeat unless seat is a number of a seat of the hall."""
    if not is_number_within(seat, 0, hall.seats - 1):
        raise BadSeat("seat is no number of a seat of the hall")


def then(one, other):
    """The arrangement that leads each seat as one does and then as other does."""
    return tuple([other[seat] for seat in one])


def turned(arrangement):
    """The arrangement that leads each seat back to where it came from."""
    came = [0 for _ in arrangement]
    for seat, there in enumerate(arrangement):
        came[there] = seat
    return tuple(came)


def way_over(ways, step):
    """The arrangement of the pass, where doors have these ways."""
    way = ways[step[0]]
    return way if step[1] == 0 else turned(way)


def rounds_of(rope):
    """The rounds of the rope, each a list of seats in the order in which pulls lead them, by their least seats."""
    rounds = []
    seen = [False for _ in rope]
    for start in range(len(rope)):
        if seen[start]:
            continue
        seats = []
        here = start
        while not seen[here]:
            seen[here] = True
            seats.append(here)
            here = rope[here]
        rounds.append(seats)
    return rounds


def places_of(rope):
    """For each seat the round in which it is, as a list of seats, and its place in it."""
    places = [None for _ in rope]
    for seats in rounds_of(rope):
        for at, seat in enumerate(seats):
            places[seat] = (seats, at)
    return places


def pulled(rope, times):
    """The arrangement of so many pulls of the rope."""
    return tuple([seats[(at + times) % len(seats)] for seats, at in places_of(rope)])


def led_seat(hall, walk, seat):
    """The seat to which the walk leads seat."""
    need_hall(hall)
    need_walk(hall.house, walk)
    need_seat(hall, seat)
    return seat_led(hall, places_along(hall, walk), walk, seat)


def arrangement_of(hall, walk):
    """The tuple of the seats to which the walk leads all seats."""
    need_hall(hall)
    need_walk(hall.house, walk)
    return arranged(hall, walk)


def halls_many(house, seats):
    """How many Halls of the house with so many seats there are."""
    need_house(house)
    if not is_number_within(seats, 1, MOST_SEATS):
        raise BadSeats("seats is no number from 1 to 5")
    ropes = list(permutations(range(seats)))
    if _times_itself(len(ropes), house.rooms) > MOST_ARRANGED:
        raise TooMany(MOST_ARRANGED)
    lengths = [[len(each) for each in rounds_of(rope)] for rope in ropes]
    many = 0
    for choice in _choices([lengths for _ in range(house.rooms)]):
        ways = 1
        for near, first, far, second in house.doors:
            ways = ways * _ways_many(_lengths_pulled(choice[near], first), _lengths_pulled(choice[far], second))
        many += ways
    return many


def parting_hall(house, walk, most):
    """A Hall with as few seats as can be in which the walk leads some seat elsewhere, or None."""
    need_home(house, walk)
    if not is_number_within(most, 1, MOST_PARTING):
        raise BadMost("most is no number from 1 to 3")
    if house.rooms + len(house.doors) > MOST_PARTED:
        raise TooMany(MOST_PARTED)
    for seats in range(1, most + 1):
        hall = _parting_of(house, walk, tuple(range(seats)))
        if hall is not None:
            return hall
    return None


def halls_beside(hall, other):
    """The Hall of the seats of both."""
    need_like_halls(hall, other)
    ropes = [_beside(one, more) for one, more in zip(hall.ropes, other.ropes)]
    ways = [_beside(one, more) for one, more in zip(hall.ways, other.ways)]
    return Hall(hall.house, tuple(ropes), tuple(ways))


def places_along(hall, walk):
    """For each room in which the walk is, places_of its rope."""
    places = {}
    for at in range(len(walk[1])):
        room = room_after(hall.house, walk, at)
        if room not in places:
            places[room] = places_of(hall.ropes[room])
    return places


def seat_led(hall, places, walk, seat):
    """What led_seat tells, of what surely is a walk and a seat; places are those along the walk."""
    _, pulls, passes = walk
    here = seat
    for at, times in enumerate(pulls):
        seats, place = places[room_after(hall.house, walk, at)][here]
        here = seats[(place + times) % len(seats)]
        if at < len(passes):
            door, side = passes[at]
            here = hall.ways[door][here] if side == 0 else hall.ways[door].index(here)
    return here


def arranged(hall, walk):
    """What arrangement_of tells, of what surely is a walk."""
    return _arranged_by(hall.house, hall.ropes, hall.ways, walk)


def _arranged_by(house, ropes, ways, walk):
    """The arrangement of the walk in the hall of these ropes and ways."""
    room, pulls, passes = walk
    here = pulled(ropes[room], pulls[0])
    for step, times in zip(passes, pulls[1:]):
        here = then(here, way_over(ways, step))
        if times != 0:
            here = then(here, pulled(ropes[ends_of(house, step)[2]], times))
    return here


def _parting_of(house, walk, still):
    """A Hall with as many seats as still, the arrangement that leads none, in which the walk leads some; or None.

    The seats of each room may be numbered anew. So only halls are tried whose ways of a shortest
    way to each room lead each seat to itself, and of those with alike rounds in room 0 only one.
    """
    orders = list(permutations(range(len(still))))
    firsts = {}
    for order in orders:
        firsts.setdefault(tuple(sorted([len(each) for each in rounds_of(order)])), order)
    straight = [way[-1][0] for way in ways_from_first(house)[1:]]
    passed = [door for door, _ in walk[2]]
    for ropes in _choices([list(firsts.values())] + [orders for _ in range(house.rooms - 1)]):
        lists = []
        for door in range(len(house.doors)):
            ways = _fitting_ways(house.doors[door], ropes, [still] if door in straight else orders)
            # Which way a door has that is not passed makes no difference.
            lists.append(ways if door in passed else ways[:1])
        for ways in _choices(lists):
            if _arranged_by(house, ropes, ways, walk) != still:
                return Hall(house, ropes, ways)
    return None


def _fitting_ways(door, ropes, orders):
    """The orders that may be ways of the door between these ropes."""
    near, first, far, second = door
    one, other = pulled(ropes[near], first), pulled(ropes[far], second)
    return [way for way in orders if then(one, way) == then(way, other)]


def _beside(one, other):
    """The arrangement of the seats of one and, behind them, those of other."""
    return one + tuple([seat + len(one) for seat in other])


def _times_itself(number, many):
    """The number to the power of many."""
    worth = 1
    for _ in range(many):
        worth = worth * number
    return worth


def _choices(lists):
    """All tuples of an item of each of the lists."""
    chosen = [()]
    for items in lists:
        chosen = [row + (item,) for row in chosen for item in items]
    return chosen


def _lengths_pulled(lengths, times):
    """The ascending list of the lengths of rounds of so many pulls of a rope whose rounds have these lengths."""
    found = []
    for length in lengths:
        parts = gcd(length, times)
        found.extend([length // parts for _ in range(parts)])
    return sorted(found)


def _ways_many(lengths, others):
    """How many ways lead rounds of these lengths over to rounds of the others."""
    if lengths != others:
        return 0
    many = 1
    for length in sorted({each: True for each in lengths}):
        rounds = lengths.count(length)
        many = many * factorial(rounds) * _times_itself(length, rounds)
    return many
