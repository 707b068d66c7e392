"""Lots: the walks that come home and lead a seat of a hall to itself."""

from math import factorial

from pulledrooms.checks import is_number_within
from pulledrooms.errors import BadMany, TooMany
from pulledrooms.halls import Hall, halls_many, led_seat, need_hall, need_like_halls, need_seat, places_of, way_over
from pulledrooms.houses import ends_of, need_house, need_room, steps_from
from pulledrooms.walks import need_home

MOST_BESIDE = 4
MOST_MEETING = 5000


def within(hall, walk, seat):
    """Whether the walk leads the seat to itself."""
    need_hall(hall)
    need_home(hall.house, walk)
    return led_seat(hall, walk, seat) == seat


def beside_many(hall, room, seat):
    """How many seats lie beside the seat in the room."""
    need_hall(hall)
    need_room(hall.house, room)
    need_seat(hall, seat)
    places = room_places(hall)
    found = rounds_reached(hall, places, room, seat)
    return sum([len(places[here][least][0]) for here, least in found if here == room])


def lead_to(hall, room, seat, other):
    """A walk from the room home that leads seat to other, or None."""
    need_hall(hall)
    need_room(hall.house, room)
    need_seat(hall, seat)
    need_seat(hall, other)
    places = room_places(hall)
    found = rounds_reached(hall, places, room, seat)
    if round_of(places, room, other) not in found:
        return None
    # From its end the walk is traced back, round by round.
    arrived, step, left = found[round_of(places, room, other)]
    pulls, passes = [_pulls_between(places[room], arrived, other)], []
    while step is not None:
        passes.append(step)
        here, goal = ends_of(hall.house, step)[0], left
        arrived, step, left = found[round_of(places, here, goal)]
        pulls.append(_pulls_between(places[here], arrived, goal))
    return (room, tuple(pulls[::-1]), tuple(passes[::-1]))


def are_one_lot(hall, other, room, seat, place):
    """Whether the lot of hall and seat and the lot of other and place are one."""
    need_like_halls(hall, other)
    need_room(hall.house, room)
    need_seat(hall, seat)
    need_seat(other, place)
    ours, theirs = _all_leads(hall), _all_leads(other)
    # For each seat to which a walk leads the one, the seat to which it leads the other, which no other walk may reach.
    met, taken = {(room, seat): place}, {(room, place): True}
    fresh = [(room, seat)]
    while fresh:
        here, at = fresh.pop()
        for (there, mine), (_, their) in zip(ours[here], theirs[here]):
            one, both = (there, mine[at]), (there, their[met[(here, at)]])
            if one not in met and both not in taken:
                met[one] = both[1]
                taken[both] = True
                fresh.append(one)
            elif met.get(one) != both[1]:
                return False
    return True


def lots_many(house, many):
    """How many lots for room 0 there are in which so many seats lie beside the seat."""
    need_house(house)
    if not is_number_within(many, 1, MOST_BESIDE):
        raise BadMany("many is no number from 1 to 4")
    halls = [_halls_by_room(house, seats) for seats in range(1, many + 1)]
    lots = []
    for seats in range(1, many + 1):
        # All is told so many times (seats - 1)!, so that numbers are whole.
        scale = factorial(seats - 1)
        told = halls[seats - 1]
        for fewer, known in enumerate(lots, start=1):
            told = told - halls[seats - fewer - 1] * known * scale // factorial(seats - fewer)
        lots.append(told // scale)
    return lots[-1]


def meeting_hall(hall, other):
    """The Hall of all pairs of a seat of hall and a seat of other."""
    need_like_halls(hall, other)
    if hall.seats * other.seats > MOST_MEETING:
        raise TooMany(MOST_MEETING)
    ropes = [_paired(one, more) for one, more in zip(hall.ropes, other.ropes)]
    ways = [_paired(one, more) for one, more in zip(hall.ways, other.ways)]
    return Hall(hall.house, tuple(ropes), tuple(ways))


def room_places(hall):
    """For each room places_of its rope."""
    return [places_of(rope) for rope in hall.ropes]


def round_of(places, room, seat):
    """The round ([82]) of the room in which the seat is."""
    return (room, places[room][seat][0][0])


def rounds_reached(hall, places, room, seat):
    """For each round to which walks lead the seat, taken in room, how one with the fewest passes comes there.

    It is told as (seat at which it arrives, last pass, seat from which this pass leads); for the
    round of the seat itself as (seat, None, None).
    """
    passes = [steps_from(hall.house, each) for each in range(hall.house.rooms)]
    leads = {step: way_over(hall.ways, step) for steps in passes for step in steps}
    found = {round_of(places, room, seat): (seat, None, None)}
    fresh = list(found)
    while fresh:
        later = []
        for here, least in fresh:
            for step in passes[here]:
                there = ends_of(hall.house, step)[2]
                for left in places[here][least][0]:
                    arrived = leads[step][left]
                    reached = round_of(places, there, arrived)
                    if reached not in found:
                        found[reached] = (arrived, step, left)
                        later.append(reached)
        fresh = later
    return found


def _pulls_between(places, seat, other):
    """The number of pulls, from 0 on, that lead seat to other in its round."""
    seats, at = places[seat]
    return (places[other][1] - at) % len(seats)


def _all_leads(hall):
    """For each room the pairs (room to which it leads, arrangement) of one pull and of each pass from there."""
    found = []
    for room, rope in enumerate(hall.ropes):
        leads = [(room, rope)]
        for step in steps_from(hall.house, room):
            leads.append((ends_of(hall.house, step)[2], way_over(hall.ways, step)))
        found.append(leads)
    return found


def _halls_by_room(house, seats):
    """The number of Halls with so many seats, divided by that of arrangements for each room but one.

    The seats of each room can be numbered anew, so that nothing is left over.
    """
    many = halls_many(house, seats)
    for _ in range(house.rooms - 1):
        many = many // factorial(seats)
    return many


def _paired(one, other):
    """The arrangement of pairs of seats that leads each part as it is led."""
    width = len(other)
    return tuple([there * width + more for there in one for more in other])
