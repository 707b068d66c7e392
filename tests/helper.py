"""What several tests share: houses, walks, odd values, and a second look at what walks do."""

import random
from fractions import Fraction
from math import gcd, lcm

from pulledrooms.halls import Hall
from pulledrooms.houses import House

SINGLE = House(1, ((0, 2, 0, 3),))
PAIR = House(2, ((0, 2, 1, 3), (1, 1, 1, -2)))
TWINS = House(2, ((0, 2, 1, 3), (0, 4, 1, -6)))
ALONE = House(1, ())
RING = House(4, ((0, 2, 1, 3), (1, -4, 2, 6), (2, 1, 3, 5), (3, -7, 0, 2), (2, 3, 2, -3), (1, 2, 0, 9)))
GREAT = House(2, ((0, 999, 1, -998), (1, -1, 1, 997), (0, -512, 0, 729)))
HUGE = 10 ** 60 - 1


def nested(wrap, levels):
    """A value of so many levels, one within the other."""
    value = 0
    for _ in range(levels):
        value = wrap(value)
    return value


# None of these is a number, a house, a walk, a list of numbers or a dict of primes.
NO_NUMBERS = (
    None, True, False, "", "0", "1", "carry", "rooms 1\n", [], {}, [0], (0, True), (None,), ("0",), [[]], {0: 1},
    {True: 1}, {"room": 0}, (0, 1), (0, 0, 0), (0, (0,), [()]), nested(lambda inner: [inner], 80),
    nested(lambda inner: (inner,), 80), nested(lambda inner: {0: inner}, 80), SINGLE,
)
ODD = NO_NUMBERS + (13, -1, 1000, HUGE, -HUGE)


def ends(house, step):
    """(room from which the pass leads, leaving number, room to which it leads, arriving number)."""
    door = house.doors[step[0]]
    return door if step[1] == 0 else door[2:] + door[:2]


def all_passes(house):
    return [(door, side) for door in range(len(house.doors)) for side in (0, 1)]


def rooms_of(house, walk):
    """The rooms in which the walk is, ahead of its first pass and behind each one."""
    rooms = [walk[0]]
    for step in walk[2]:
        rooms.append(ends(house, step)[2])
    return rooms


def look_of(house, walk):
    """What the walk does with numbers: x goes to x * factor + more.

    A pull adds 1, and a pass multiplies by its arriving number over its leaving number. So
    carrying and cancelling change nothing here: walks that are one have one look.
    """
    factor, more = Fraction(1), Fraction(walk[1][0])
    for step, pulls in zip(walk[2], walk[1][1:]):
        _, leaving, _, arriving = ends(house, step)
        factor = factor * arriving / leaving
        more = more * arriving / leaving + pulls
    return walk[0], rooms_of(house, walk)[-1], factor, more


def carry(house, walk, spot, times):
    _, leaving, _, arriving = ends(house, walk[2][spot])
    pulls = list(walk[1])
    pulls[spot] -= leaving * times
    pulls[spot + 1] += arriving * times
    return walk[0], tuple(pulls), walk[2]


def cancel(walk, spot):
    pulls, passes = list(walk[1]), list(walk[2])
    assert passes[spot + 1] == (passes[spot][0], 1 - passes[spot][1]) and pulls[spot + 1] == 0
    pulls[spot:spot + 3] = [pulls[spot] + pulls[spot + 2]]
    passes[spot:spot + 2] = []
    return walk[0], tuple(pulls), tuple(passes)


def spots(house, walk):
    """The indexes of the passes at which the walk can be shortened."""
    found = []
    for spot in range(len(walk[2]) - 1):
        door, side = walk[2][spot]
        if walk[2][spot + 1] == (door, 1 - side) and walk[1][spot + 1] % ends(house, walk[2][spot])[3] == 0:
            found.append(spot)
    return tuple(found)


def shorten(house, walk, spot):
    times = walk[1][spot + 1] // ends(house, walk[2][spot])[3]
    return cancel(carry(house, walk, spot, -times), spot)


def some_plain_form(house, walk, chance):
    """The plain form, come to by shortenings and carryings in an order left to chance."""
    while True:
        deeds = [("shorten", spot) for spot in spots(house, walk)]
        for spot, step in enumerate(walk[2]):
            if not 0 <= walk[1][spot] < abs(ends(house, step)[1]):
                deeds.append(("carry", spot))
        if not deeds:
            return walk
        deed, spot = chance.choice(deeds)
        if deed == "shorten":
            walk = shorten(house, walk, spot)
        else:
            leaving = ends(house, walk[2][spot])[1]
            rest = walk[1][spot] % abs(leaving)
            walk = carry(house, walk, spot, (walk[1][spot] - rest) // leaving)


def some_number(chance, numbers):
    return chance.choice(numbers) * chance.choice((1, -1))


def some_house(chance, numbers=(1, 2, 3, 4, 6), most_rooms=5, most_more=4):
    """A house left to chance, whose door numbers have the sizes told."""
    rooms = chance.randint(1, most_rooms)
    doors = []
    for room in range(1, rooms):
        doors.append((chance.randrange(room), room))
    for _ in range(chance.randint(0, most_more)):
        doors.append((chance.randrange(rooms), chance.randrange(rooms)))
    chance.shuffle(doors)
    return House(rooms, tuple((near, some_number(chance, numbers), far, some_number(chance, numbers))
                              for near, far in doors))


def some_walk(chance, house, passes, room=None, pulls=(-6, 12), turns=0.5):
    """A walk left to chance, which often turns back; pulls are in the range told."""
    room = chance.randrange(house.rooms) if room is None else room
    steps, here = [], room
    while len(steps) < passes:
        ways = [step for step in all_passes(house) if ends(house, step)[0] == here]
        if not ways:
            break
        step = chance.choice(ways)
        if steps and chance.random() < turns:
            step = (steps[-1][0], 1 - steps[-1][1])
        steps.append(step)
        here = ends(house, step)[2]
    return room, tuple(chance.randint(*pulls) for _ in range(len(steps) + 1)), tuple(steps)


def ways_from(house, start):
    """For each room the passes of a shortest way to it from start; all of them together are a tree."""
    ways, waiting = {start: ()}, [start]
    while waiting:
        room = waiting.pop(0)
        for step in all_passes(house):
            leads, _, there, _ = ends(house, step)
            if leads == room and there not in ways:
                ways[there] = ways[room] + (step,)
                waiting.append(there)
    return ways


def way_between(house, start, goal):
    """The passes of a shortest way from one room to another."""
    return ways_from(house, start)[goal]


def some_round(chance, house, passes, **more):
    """A walk left to chance that comes home."""
    room, pulls, steps = some_walk(chance, house, passes, **more)
    homeward = way_between(house, rooms_of(house, (room, pulls, steps))[-1], room)
    return room, pulls + tuple(chance.randint(-6, 12) for _ in homeward), steps + homeward


def turned_back(house, walk):
    """The walk backwards."""
    steps = tuple((door, 1 - side) for door, side in reversed(walk[2]))
    return rooms_of(house, walk)[-1], tuple(-pulls for pulls in reversed(walk[1])), steps


def put_together(*walks):
    """The walks, one after another."""
    room, pulls, passes = walks[0]
    for _, more, further in walks[1:]:
        pulls = pulls[:-1] + (pulls[-1] + more[0],) + more[1:]
        passes = passes + further
    return room, pulls, passes


def some_nothing(chance, house, passes):
    """A walk left to chance that is nothing: passes and backs are put into standing, pulls carried."""
    walk = chance.randrange(house.rooms), (0,), ()
    while len(walk[2]) < passes:
        spot = chance.randrange(len(walk[1]))
        ways = [step for step in all_passes(house) if ends(house, step)[0] == rooms_of(house, walk)[spot]]
        if not ways:
            break
        step, ahead = chance.choice(ways), chance.randint(-5, 5)
        pulls, steps = list(walk[1]), list(walk[2])
        pulls[spot:spot + 1] = [ahead, 0, pulls[spot] - ahead]
        steps[spot:spot] = [step, (step[0], 1 - step[1])]
        walk = walk[0], tuple(pulls), tuple(steps)
        walk = carry(house, walk, chance.randrange(len(steps)), chance.randint(-2, 2))
    return walk


def houses_by_chance(seed, many, **more):
    """So many pairs of a chance and a house."""
    chance = random.Random(seed)
    return [(chance, some_house(chance, **more)) for _ in range(many)]


def go_over(house, state, step):
    """The state to which the pass moves the state, or None."""
    room, leaving, there, arriving = ends(house, step)
    if room != state[0] or state[1] % leaving != 0:
        return None
    return there, state[1] // leaving * arriving


def class_here(house, state, most):
    """(states met by a search that ends behind so many, whether these are all)."""
    met, at = [state], 0
    known = {state}
    while at < len(met) and len(met) <= most:
        for step in all_passes(house):
            there = go_over(house, met[at], step)
            if there is not None and there not in known:
                known.add(there)
                met.append(there)
        at += 1
    return met, at == len(met)


def some_state(chance, house, most=4):
    """A state left to chance, whose number has factors of the doors."""
    number = chance.choice((1, -1)) * chance.choice((1, 1, 5, 7))
    for _ in range(chance.randint(0, most)):
        number *= chance.choice([door[at] for door in house.doors for at in (1, 3)] or [2])
    return chance.randrange(house.rooms), number


def fill(pattern, number):
    """The walk for k = number."""
    room, pulls, passes = pattern
    return room, tuple(times * number + more for times, more in pulls), passes


def in_row(row, number):
    first, step = row
    return number == first if step == 0 else number % step == first


def some_pattern(chance, house, passes, home=False, room=None):
    """A pattern left to chance that is often nothing, or short, for some k."""
    kind = chance.random()
    if kind < 0.6 and room is None:
        walk = some_nothing(chance, house, chance.randrange(0, passes + 1, 2))
    else:
        walk = some_walk(chance, house, chance.randint(0, passes), room=room, turns=0.7)
    if home and rooms_of(house, walk)[-1] != walk[0]:
        half = walk[0], walk[1][:len(walk[2]) // 2 + 1], walk[2][:len(walk[2]) // 2]
        walk = put_together(half, turned_back(house, half))
    number = chance.choice((0, 1, 2, 3, -5))
    if kind < 0.2:
        return walk[0], tuple((chance.choice((0, 0, 1, -1, 2)), pulls) for pulls in walk[1]), walk[2]
    told = []
    for pulls in walk[1]:
        times = chance.choice((0, 0, 1, -1, 2, 3, 6))
        told.append((times, pulls - times * number + chance.choice((0,) * 20 + (1,))))
    return walk[0], tuple(told), walk[2]


def rounds_here(rope):
    """The rounds of a rope, each a list of seats as pulls lead them."""
    rounds, left = [], set(range(len(rope)))
    while left:
        seats = [min(left)]
        while rope[seats[-1]] != seats[0]:
            seats.append(rope[seats[-1]])
        rounds.append(seats)
        left -= set(seats)
    return rounds


def lead_seat(hall, walk, seat):
    """The seat to which the walk leads seat, pull by pull and pass by pass."""
    for at, pulls in enumerate(walk[1]):
        rope = hall.ropes[rooms_of(hall.house, walk)[at]]
        for _ in range(abs(pulls)):
            seat = rope[seat] if pulls > 0 else rope.index(seat)
        if at < len(walk[2]):
            door, side = walk[2][at]
            seat = hall.ways[door].index(seat) if side else hall.ways[door][seat]
    return seat


def pull_all(rope, times):
    """The arrangement of so many pulls."""
    seats = list(range(len(rope)))
    for _ in range(abs(times)):
        seats = [rope[seat] if times > 0 else rope.index(seat) for seat in seats]
    return tuple(seats)


def fit_here(doors, numbers):
    """Whether the numbers of the rooms fit the doors."""
    return all(numbers[near] // gcd(numbers[near], first) == numbers[far] // gcd(numbers[far], second)
               for near, first, far, second in doors)


def fitting_here(house, most):
    """The fitting numbers of the house up to most."""
    found = [()]
    for room in range(house.rooms):
        doors = [door for door in house.doors if max(door[0], door[2]) <= room]
        found = [row + (number,) for row in found for number in range(1, most + 1) if fit_here(doors, row + (number,))]
    return found


def some_hall(chance, house, most=4, parts=2):
    """A Hall left to chance: ropes with rounds of fitting lengths, and ways that lead such rounds over."""
    ropes = [[] for _ in range(house.rooms)]
    for _ in range(chance.randint(1, parts)):
        fitting = chance.choice(fitting_here(house, most))
        for room, length in enumerate(fitting):
            for _ in range(lcm(*fitting) // length):
                ropes[room].append(length)
    seats = sum(ropes[0])
    ropes = [some_rope(chance, seats, lengths) for lengths in ropes]
    ways = []
    for near, first, far, second in house.doors:
        way = [None] * seats
        theirs = rounds_here(pull_all(ropes[far], second))
        chance.shuffle(theirs)
        for ours in rounds_here(pull_all(ropes[near], first)):
            other = next(each for each in theirs if len(each) == len(ours))
            theirs.remove(other)
            turn = chance.randrange(len(ours))
            for seat, there in zip(ours, other[turn:] + other[:turn]):
                way[seat] = there
        ways.append(tuple(way))
    return Hall(house, tuple(ropes), tuple(ways))


def some_rope(chance, seats, lengths):
    """A rope left to chance that has rounds of these lengths."""
    order = list(range(seats))
    chance.shuffle(order)
    rope = [None] * seats
    for length in lengths:
        seats, order = order[:length], order[length:]
        for at, seat in enumerate(seats):
            rope[seat] = seats[(at + 1) % length]
    return tuple(rope)


PRIMES = [prime for prime in range(2, 1000) if all(prime % part for part in range(2, prime))]


def primes_here(house):
    numbers = [number for door in house.doors for number in (door[1], door[3])]
    return [prime for prime in PRIMES if any(number % prime == 0 for number in numbers)]


def times_in(prime, number):
    """How often the prime divides the number."""
    times = 0
    while number % prime == 0:
        number, times = number // prime, times + 1
    return times


def led_along(house, lead, walk):
    """The lead, then the walk, then the lead backwards."""
    return put_together(lead, walk, turned_back(house, lead))


def pulls_in(room, times):
    """Pulls alone."""
    return room, (times,), ()


def bare(room, steps):
    """The walk by these passes without pulls."""
    return room, (0,) * (len(steps) + 1), tuple(steps)


def done(walk, times):
    """The walk so many times, from once on."""
    return put_together(*[walk] * times)


def round_trips(house, room):
    """Walks from the room home of which all others are joined: over each door, and with one pull in each room."""
    ways, trips = ways_from(house, room), []
    for door, (near, _, far, _) in enumerate(house.doors):
        trips.append(bare(room, ways[near] + ((door, 0),) + turned_back(house, bare(room, ways[far]))[2]))
    for there in range(house.rooms):
        trips.append(led_along(house, bare(room, ways[there]), pulls_in(there, 1)))
    return trips


def measured_house(chance, most_rooms=4, most_more=2, turns=0.15):
    """A house left to chance in which lengths fit."""
    shape = some_house(chance, most_rooms=most_rooms, most_more=most_more)
    lengths = [chance.choice((1, 2, 3, 4, 6)) for _ in range(shape.rooms)]
    doors = []
    for near, _, far, _ in shape.doors:
        common = lcm(lengths[near], lengths[far]) * chance.choice((1, 1, 2, 3))
        sign = -1 if chance.random() < turns else 1
        doors.append((near, sign * common // lengths[near], far, common // lengths[far]))
    return House(shape.rooms, tuple(doors))


def met_by(hall, room, seat):
    """All pairs (room, seat) to which walks lead the seat, taken in room; pull by pull and pass by pass."""
    met, waiting = {(room, seat)}, [(room, seat)]
    while waiting:
        here, at = waiting.pop()
        leads = [(here, hall.ropes[here][at])]
        for door, side in all_passes(hall.house):
            start, _, there, _ = ends(hall.house, (door, side))
            if start == here:
                leads.append((there, hall.ways[door].index(at) if side else hall.ways[door][at]))
        for lead in leads:
            if lead not in met:
                met.add(lead)
                waiting.append(lead)
    return met


def round_here(hall, room, seat):
    """The seats of the round in which the seat is, from the least one on, as pulls lead them."""
    return next(seats for seats in rounds_here(hall.ropes[room]) if seat in seats)
