"""Returns: after how many pulls the ropes of halls lead each seat back."""

from math import gcd, lcm

from pulledrooms.checks import is_number, is_number_within, is_tuple_of
from pulledrooms.errors import BadFitting, BadPrime, TooMany
from pulledrooms.halls import Hall, need_hall, pulled, rounds_of
from pulledrooms.houses import ends_of, need_house
from pulledrooms.weights import exponent_of, primes_of, round_rows

GREATEST_PRIME = 997
MOST_RETURNING = 5000
MOST_EXPONENT = 9


def returns_of(hall):
    """The tuple of the returns of all rooms."""
    need_hall(hall)
    return returns_in(hall)


def are_fitting(house, thing):
    """Whether thing are fitting numbers of the house."""
    need_house(house)
    if not is_tuple_of(thing, house.rooms) or not all([is_number(each) and each > 0 for each in thing]):
        return False
    for near, first, far, second in house.doors:
        if thing[near] // gcd(thing[near], first) != thing[far] // gcd(thing[far], second):
            return False
    return True


def hall_of_returns(house, fitting):
    """A Hall in which all rounds of each rope have the length that is told for its room."""
    if not are_fitting(house, fitting):
        raise BadFitting("no fitting numbers of the house")
    seats = common_of(fitting)
    if seats > MOST_RETURNING:
        raise TooMany(MOST_RETURNING)
    ropes = tuple([rope_of(seats, length) for length in fitting])
    ways = [way_through(pulled(ropes[near], first), pulled(ropes[far], second), [])
            for near, first, far, second in house.doors]
    return Hall(house, ropes, tuple(ways))


def greatest_power(house, prime):
    """For each room the greatest exponent of the prime in returns of its rope, or None if there is no bound."""
    need_house(house)
    if not is_number_within(prime, 2, GREATEST_PRIME) or not _is_prime(prime):
        raise BadPrime("prime is no prime number from 2 to 997")
    if not any([any(row) for row in round_rows(house, [prime])]):
        return None
    return _greatest_exponents(house, prime)


def bounded_primes(house):
    """The ascending list of the primes that have a greatest power."""
    need_house(house)
    return [prime for prime in primes_of(house) if any([any(row) for row in round_rows(house, [prime])])]


def deep_part(house):
    """The tuple with, for each room, the product of the bounded primes, each to its greatest exponent."""
    primes = bounded_primes(house)
    deep = [1 for _ in range(house.rooms)]
    for prime in primes:
        for room, times in enumerate(_greatest_exponents(house, prime)):
            for _ in range(times):
                deep[room] = deep[room] * prime
    return tuple(deep)


def returns_in(hall):
    """What returns_of tells, of what surely is a Hall."""
    return tuple([common_of([len(seats) for seats in rounds_of(rope)]) for rope in hall.ropes])


def common_of(numbers):
    """The least common multiple of the numbers."""
    common = 1
    for number in numbers:
        common = lcm(common, number)
    return common


def rope_of(seats, length):
    """The rope of so many seats that leads each so many seats that stand side by side round."""
    return tuple([seat + 1 if (seat + 1) % length != 0 else seat + 1 - length for seat in range(seats)])


def way_through(one, other, links):
    """A way that leads the rounds of the one arrangement over to those of the other; each has as long ones.

    Links are pairs (seat, seat to which the way leads it), no two of them in one round on either side.
    """
    way = [None for _ in one]
    led = [False for _ in other]
    for seat, there in links:
        while way[seat] is None:
            way[seat] = there
            led[there] = True
            seat, there = one[seat], other[there]
    ours = [seats for seats in rounds_of(one) if way[seats[0]] is None]
    theirs = [seats for seats in rounds_of(other) if not led[seats[0]]]
    for seats, others in zip(ours, theirs):
        for seat, there in zip(seats, others):
            way[seat] = there
    return tuple(way)


def _is_prime(number):
    """Whether the number, which is above 1, is a prime."""
    return all([number % part != 0 for part in range(2, number)])


def _greatest_exponents(house, prime):
    """What greatest_power tells, of a prime by which some round walk stretches.

    Somewhere on such a walk, one way or the other, the exponent of a room is at most that of a
    leaving number, which is at most 9, and that of each further room is at most 9 more. From
    there the exponents are brought down until no pass forbids them.
    """
    exponents = [MOST_EXPONENT * house.rooms for _ in range(house.rooms)]
    steps = [ends_of(house, (door, side)) for door in range(len(house.doors)) for side in (0, 1)]
    lower = True
    while lower:
        lower = False
        for room, leaving, there, arriving in steps:
            most = exponent_of(prime, leaving) + max(0, exponents[there] - exponent_of(prime, arriving))
            if exponents[room] > most:
                exponents[room] = most
                lower = True
    return tuple(exponents)
