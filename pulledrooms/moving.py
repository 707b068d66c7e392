"""States: pulls in a room, moved over doors, and the classes of states that can be moved into one another."""

from pulledrooms.checks import is_number, is_tuple_of
from pulledrooms.errors import BadState, TooMany
from pulledrooms.houses import House, ends_of, is_pass, is_room, need_house, steps_from
from pulledrooms.ratios import ways_from_first
from pulledrooms.weights import can_be_solved, exponent_of, have_weights, primes_of, round_rows, stretch_of

MOST_STATES = 5000
FIRST_LOOK = 100
WIDER_LOOK = 4
MOST_NEAR = 100


def is_state(house, thing):
    """Whether thing is a state of the house."""
    need_house(house)
    if not is_tuple_of(thing, 2):
        return False
    room, number = thing
    return is_room(house, room) and is_number(number) and number != 0


def need_state(house, state):
    """Raises BadHouse, or BadState unless state is a state of the house."""
    if not is_state(house, state):
        raise BadState("no state of the house")


def next_states(house, state):
    """The ascending list of the states to which one pass moves the state."""
    need_state(house, state)
    return sorted(_neighbours(house, state))


def moved_by(house, state, thing):
    """The state to which the passes of thing move the state, or None."""
    need_state(house, state)
    if not isinstance(thing, tuple):
        return None
    here = state
    for step in thing:
        if not is_pass(house, step):
            return None
        here = moved_over(house, here, step)
        if here is None:
            return None
    return here


def endless_pair(house, state):
    """(room, number, times) of two states of the class, if it is endless, or None."""
    need_state(house, state)
    pair, _, whole = _search(house, state, FIRST_LOOK)
    if pair is not None or whole or have_weights(_met_house(house, state)):
        return pair
    room, number = state
    parts = _parts(house, number)
    look = FIRST_LOOK
    # Each look is wider than the one before, so that one of them finds a pair or sees the whole class.
    while True:
        for part in parts:
            pair, _, whole = _search(house, (room, part), look)
            if pair is not None:
                there, found, times = pair
                # What moves a part of the pulls moves so many times the part.
                return (there, found * (number // part), times)
            if whole and part == number:
                return None
        look = look * WIDER_LOOK


def class_of(house, state):
    """The ascending list of the states to which the state can be moved, or None if there is no end of them."""
    need_state(house, state)
    pair, found, whole = _search(house, state, MOST_STATES)
    if whole:
        return sorted(found)
    if pair is None and endless_pair(house, state) is None:
        raise TooMany(MOST_STATES)
    return None


def moved_over(house, state, step):
    """The state to which the pass moves the state, or None."""
    room, number = state
    start, leaving, there, arriving = ends_of(house, step)
    if start != room or number % leaving != 0:
        return None
    return (there, number // leaving * arriving)


def _neighbours(house, state):
    """The states to which one pass moves the state, each once."""
    found = {}
    for step in steps_from(house, state[0]):
        there = moved_over(house, state, step)
        if there is not None:
            found[there] = True
    return list(found)


def _search(house, state, look):
    """(pair or None, states found, whether these are the whole class) of a search that ends behind look states.

    A pair are two states found, whose numbers in one room divide one another: so the one can be
    moved on to the other, and from there again and again. In an endless class there is such a
    state for the first one already; the others near it let the search find one sooner.
    """
    found = {state: True}
    near = {state[0]: [state[1]]}
    fresh = [state]
    while fresh and len(found) <= look:
        later = []
        for here in fresh:
            for there in _neighbours(house, here):
                if there in found:
                    continue
                found[there] = True
                others = near.setdefault(there[0], [])
                pair = _pair_among(there, others)
                if pair is not None:
                    return (pair, list(found), False)
                if len(others) < MOST_NEAR:
                    others.append(there[1])
                later.append(there)
        fresh = later
    return (None, list(found), not fresh)


def _pair_among(state, others):
    """The endless pair of the state and one of the other numbers in its room, or None."""
    room, number = state
    for other in others:
        if number % other == 0 and abs(number) != abs(other):
            return (room, other, number // other)
        if other % number == 0 and abs(number) != abs(other):
            return (room, number, other // number)
    return None


def _parts(house, number):
    """Divisors of the number, each one dividing the next: no prime of the doors comes in more often
    than once, than twice, than four times and so on; the last one is the number itself.

    A class of a part is endless only if that of the number is, and is seen through sooner.
    """
    free = number
    exponents = {}
    for prime in primes_of(house):
        exponents[prime] = exponent_of(prime, number)
        for _ in range(exponents[prime]):
            free = free // prime
    parts = [free]
    most = 1
    while parts[-1] != number:
        part = free
        for prime, times in exponents.items():
            for _ in range(min(times, most)):
                part = part * prime
        parts.append(part)
        most = most * 2
    return parts


def _met_house(house, state):
    """The house of the doors over which states of the class may be moved; its room 0 is that of the state.

    No door is left out that moves a state of the class, but one may be in that moves none.
    """
    rooms = [state[0]]
    doors = []
    met = House(1, ())
    door = _door_to_be_met(house, state, rooms, doors, met)
    while door is not None:
        doors.append(door)
        near, _, far, _ = house.doors[door]
        for room in (near, far):
            if room not in rooms:
                rooms.append(room)
        met = House(len(rooms), tuple([_told_anew(house.doors[each], rooms) for each in doors]))
        door = _door_to_be_met(house, state, rooms, doors, met)
    return met


def _told_anew(door, rooms):
    """The door, its rooms told by where they stand in rooms."""
    near, first, far, second = door
    return (rooms.index(near), first, rooms.index(far), second)


def _door_to_be_met(house, state, rooms, doors, met):
    """A door not yet among doors that may move what these doors make of the state, or None."""
    primes = primes_of(house)
    rows = [row for row in round_rows(met, primes) if any(row)]
    ways = ways_from_first(met)
    here = [exponent_of(prime, state[1]) for prime in primes]
    for at, room in enumerate(rooms):
        risen = stretch_of(met, primes, ways[at])
        there = [own + more for own, more in zip(here, risen)]
        for step in steps_from(house, room):
            leaving = ends_of(house, step)[1]
            lack = [exponent_of(prime, leaving) - own for prime, own in zip(primes, there)]
            if step[0] not in doors and not _stays_lacking(rows, lack):
                return step[0]
    return None


def _stays_lacking(rows, lack):
    """Whether no round walks, in any number, even by parts of them, make up for what is lacking.

    By Farkas' lemma they do not just if some weights from 0 on, which they leave as they are,
    weigh what is lacking above 0.
    """
    rights = [0 for _ in rows] + [1]
    return max(lack) > 0 and can_be_solved(rows + [lack], rights, len(lack))
