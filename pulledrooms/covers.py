"""Covers: the house of the rounds to which walks lead a seat of a hall."""

from math import gcd

from pulledrooms.classes import solutions
from pulledrooms.errors import BadWalk, Elsewhere, NotWithin, TooMany
from pulledrooms.halls import need_hall, need_seat, places_along, seat_led, way_over
from pulledrooms.houses import MOST_DOORS, MOST_ROOMS, House, ends_of
from pulledrooms.lots import room_places, round_of, rounds_reached
from pulledrooms.ratios import kept_pulls
from pulledrooms.returns import hall_of_returns
from pulledrooms.walks import is_walk, need_home, room_after


def cover_rooms(hall, seat):
    """The ascending list of the rounds to which some walk leads the seat, taken in room 0."""
    need_hall(hall)
    need_seat(hall, seat)
    return _rounds(hall, room_places(hall), seat)


def cover_doors(hall, seat):
    """The ascending list of the pairs (door, place) of the doors of the cover."""
    need_hall(hall)
    need_seat(hall, seat)
    places = room_places(hall)
    return _doors(hall, places, _rounds(hall, places, seat))


def cover_of(hall, seat):
    """The House whose rooms are the rounds, joined by the doors of the cover."""
    need_hall(hall)
    need_seat(hall, seat)
    return _cover(hall, room_places(hall), seat)[0]


def out_of_cover(hall, seat, walk):
    """The walk of the hall's house that comes of a walk of the cover."""
    need_hall(hall)
    need_seat(hall, seat)
    places = room_places(hall)
    cover, rounds, doors = _cover(hall, places, seat)
    if not is_walk(cover, walk):
        raise BadWalk("no walk of the cover")
    first, pulls, passes = walk
    lengths = [len(places[room][least][0]) for room, least in rounds]
    told, steps = [pulls[0] * lengths[first]], []
    for at, (index, side) in enumerate(passes):
        leads = _leads_at(hall, places, doors[index])
        steps.append((doors[index][0], side))
        told[-1] += leads[side]
        told.append(pulls[at + 1] * lengths[room_after(cover, walk, at + 1)] - leads[1 - side])
    return (rounds[first][0], tuple(told), tuple(steps))


def into_cover(hall, seat, walk):
    """A walk of the cover that comes home, and out of which walk comes, but for the lead of the seat."""
    need_hall(hall)
    need_seat(hall, seat)
    need_home(hall.house, walk)
    if walk[0] != 0:
        raise Elsewhere("the walk does not begin in room 0")
    if seat_led(hall, places_along(hall, walk), walk, seat) != seat:
        raise NotWithin("the walk does not lead the seat to itself")
    places = room_places(hall)
    _, rounds, doors = _cover(hall, places, seat)
    _, pulls, passes = walk
    lead = places[0][seat][1]
    here, ahead = seat, lead + pulls[0]
    told, steps = [], []
    for step, behind in zip(passes, pulls[1:]):
        room, leaving, there, arriving = ends_of(hall.house, step)
        seats = places[room][here][0]
        at = seats[ahead % len(seats)]
        here = way_over(hall.ways, step)[at]
        index = doors.index(_door_at(hall, places, step[0], at if step[1] == 0 else here))
        leads = _leads_at(hall, places, doors[index])
        # From where the door of the cover is passed, the pulls of its number lead here so many times.
        times = solutions(leaving, ahead - leads[step[1]], len(seats))[0][0]
        told.append((ahead - leads[step[1]] - leaving * times) // len(seats))
        steps.append((index, step[1]))
        ahead = leads[1 - step[1]] + arriving * times + behind
    told.append((ahead - lead) // len(places[0][seat][0]))
    return (rounds.index(round_of(places, 0, seat)), tuple(told), tuple(steps))


def plain_cover(house):
    """A Hall for each seat of which all numbers of the cover's doors are 1 or -1, or None."""
    kept = kept_pulls(house)
    # The numbers of all doors divide the lengths of rounds that are as long as these pulls.
    return None if kept is None else hall_of_returns(house, kept)


def _rounds(hall, places, seat):
    """What cover_rooms tells."""
    return sorted(rounds_reached(hall, places, 0, seat))


def _doors(hall, places, rounds):
    """What cover_doors tells."""
    found = []
    for door, (near, first, _, _) in enumerate(hall.house.doors):
        for room, least in rounds:
            if room == near:
                seats = places[room][least][0]
                parts = gcd(first, len(seats))
                found.extend([(door, min(seats[start::parts])) for start in range(parts)])
    return sorted(found)


def _door_at(hall, places, door, seat):
    """The pair (door, place) of the door of the cover that is passed from this seat in the room near."""
    near, first, _, _ = hall.house.doors[door]
    seats, at = places[near][seat]
    parts = gcd(first, len(seats))
    return (door, min(seats[at % parts::parts]))


def _leads_at(hall, places, pair):
    """The leads of place and of the seat to which the door leads it."""
    door, place = pair
    near, _, far, _ = hall.house.doors[door]
    return (places[near][place][1], places[far][hall.ways[door][place]][1])


def _cover(hall, places, seat):
    """(cover, rounds that are its rooms, pairs that are its doors)."""
    rounds = _rounds(hall, places, seat)
    if len(rounds) > MOST_ROOMS:
        raise TooMany(MOST_ROOMS)
    pairs = _doors(hall, places, rounds)
    if len(pairs) > MOST_DOORS:
        raise TooMany(MOST_DOORS)
    indexes = {each: at for at, each in enumerate(rounds)}
    doors = []
    for door, place in pairs:
        near, first, far, second = hall.house.doors[door]
        there = hall.ways[door][place]
        ours, theirs = len(places[near][place][0]), len(places[far][there][0])
        doors.append((indexes[round_of(places, near, place)], first // gcd(first, ours),
                      indexes[round_of(places, far, there)], second // gcd(second, theirs)))
    return (House(len(rounds), tuple(doors)), rounds, pairs)
