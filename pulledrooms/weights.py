"""Weights of primes that fit all doors, and growths, of which there are some just if there are no weights."""

from math import gcd

from pulledrooms.checks import is_list, is_number, is_tuple_of
from pulledrooms.errors import TooMany
from pulledrooms.houses import ends_of, need_house
from pulledrooms.ratios import is_bare, round_walks, ways_from_first
from pulledrooms.walks import is_round

MOST_PRIMES = 12


def are_weights(house, thing):
    """Whether thing are weights of the house."""
    need_house(house)
    if not is_tuple_of(thing, 2):
        return False
    weights, heights = thing
    primes = primes_of(house)
    if not isinstance(weights, dict) or len(weights) != len(primes) or not is_tuple_of(heights, house.rooms):
        return False
    told = [weights.get(prime) for prime in primes]
    if not all([is_number(weight) and weight > 0 for weight in told]):
        return False
    if not all([is_number(height) for height in heights]):
        return False
    for near, first, far, second in house.doors:
        if heights[near] + _weight(told, primes, first) != heights[far] + _weight(told, primes, second):
            return False
    return True


def weights_of(house):
    """Weights of the house, or None."""
    primes = _few_primes(house)
    weights, times = _balance(round_rows(house, primes), len(primes))
    if times is not None:
        return None
    heights = []
    for way in ways_from_first(house):
        # What a way stretches by, weighed, is by how much the room at its end is lower than room 0.
        risen = stretch_of(house, primes, way)
        heights.append(-sum([weight * many for weight, many in zip(weights, risen)]))
    return (dict(zip(primes, weights)), tuple(heights))


def is_growth(house, thing):
    """Whether thing is a growth of the house."""
    need_house(house)
    if not is_list(thing) or not all([_is_part(house, part) for part in thing]):
        return False
    primes = primes_of(house)
    # Of numbers with many digits no power can be told, but its exponents can.
    total = [0 for _ in primes]
    for walk, times in thing:
        risen = stretch_of(house, primes, walk[2])
        total = [whole + times * many for whole, many in zip(total, risen)]
    return any(total) and min(total) >= 0


def growth_of(house):
    """A growth of the house, or None."""
    primes = _few_primes(house)
    _, times = _balance(round_rows(house, primes), len(primes))
    if times is None:
        return None
    return [(walk, many) for walk, many in zip(round_walks(house), times) if many != 0]


def have_weights(house):
    """Whether there are weights of the house, whose doors may have any number of primes."""
    primes = primes_of(house)
    _, times = _balance(round_rows(house, primes), len(primes))
    return times is None


def _is_part(house, thing):
    """Whether thing may stand in a growth."""
    if not is_tuple_of(thing, 2):
        return False
    walk, times = thing
    if not is_bare(house, walk) or walk[0] != 0 or not is_round(house, walk):
        return False
    return is_number(times) and times != 0


def _primes_in(number):
    """The ascending list of the primes that divide number, which is not 0."""
    left = abs(number)
    found = []
    prime = 2
    while left > 1:
        if left % prime == 0:
            found.append(prime)
        while left % prime == 0:
            left = left // prime
        prime += 1
    return found


def primes_of(house):
    """The ascending list of the primes that divide numbers of the doors."""
    met = {}
    for _, first, _, second in house.doors:
        for prime in _primes_in(first * second):
            met[prime] = True
    return sorted(met)


def _few_primes(house):
    """The same; raises BadHouse, or TooMany for more primes than are let."""
    need_house(house)
    primes = primes_of(house)
    if len(primes) > MOST_PRIMES:
        raise TooMany(MOST_PRIMES)
    return primes


def exponent_of(prime, number):
    """How often prime divides number, which is not 0."""
    times = 0
    while number % prime == 0:
        number = number // prime
        times += 1
    return times


def _weight(weights, primes, number):
    """The weight of number."""
    return sum([weight * exponent_of(prime, number) for weight, prime in zip(weights, primes)])


def stretch_of(house, primes, passes):
    """The exponents of the primes in the ratio of the passes."""
    total = [0 for _ in primes]
    for step in passes:
        _, leaving, _, arriving = ends_of(house, step)
        risen = [exponent_of(prime, arriving) - exponent_of(prime, leaving) for prime in primes]
        total = [whole + many for whole, many in zip(total, risen)]
    return total


def round_rows(house, primes):
    """For each of round_walks the exponents of the primes in its ratio."""
    return [stretch_of(house, primes, walk[2]) for walk in round_walks(house)]


def _balance(rows, width):
    """Numbers above 0 that are at right angles to all rows, or times of the rows that forbid them.

    The pair (weights, None): each row, multiplied part by part with weights, sums up to 0; or
    (None, times): the rows, taken so many times, sum up to a row without parts below 0, but
    with one above 0. By Stiemke's theorem just one of both exists. Weights are sought as 1 more
    than numbers from 0 on; where there are none, the last goal tells the times.
    """
    rights = [-sum(row) for row in rows]
    table, base, scale = _brought_down(rows, rights, width)
    goal = table[-1]
    if goal[-1] != 0:
        times = [_sign(right) * (goal[width + at] - scale) for at, right in enumerate(rights)]
        # A row of noughts adds nothing, so it is left out.
        return (None, _lowest([many if any(row) else 0 for many, row in zip(times, rows)]))
    weights = [scale for _ in range(width)]
    for at, column in enumerate(base):
        if column < width:
            weights[column] += table[at][-1]
    return (_lowest(weights), None)


def can_be_solved(rows, rights, width):
    """Whether some fractions from 0 on, multiplied part by part with each row, sum up to its right side."""
    table, _, _ = _brought_down(rows, rights, width)
    return table[-1][-1] == 0


def _brought_down(rows, rights, width):
    """(table, base, scale) behind the first phase of the simplex method."""
    table = _first_table(rows, rights, width)
    base = [width + at for at in range(len(rows))]
    scale = 1
    column = _entering(table, width)
    while column is not None:
        at = _leaving(table, base, column)
        base[at] = column
        table = _pivoted(table, at, column, scale)
        scale = table[at][column]
        column = _entering(table, width)
    return (table, base, scale)


def _sign(right):
    """The sign that a row gets in the table, so that its right side is not below 0."""
    return -1 if right < 0 else 1


def _first_table(rows, rights, width):
    """The table of the first phase: parts, a column of its own for each row, the right side.

    The last row is the goal: what is left of all right sides, to be brought down to 0. All
    items of later tables are whole numbers, too, times the scale by which they are divided.
    """
    table = []
    for at, row in enumerate(rows):
        own = [1 if other == at else 0 for other in range(len(rows))]
        sign = _sign(rights[at])
        table.append([sign * part for part in row] + own + [sign * rights[at]])
    goal = [-sum([line[column] for line in table]) for column in range(width)]
    goal = goal + [0 for _ in rows] + [-sum([line[-1] for line in table])]
    return table + [goal]


def _entering(table, width):
    """The least column that brings the goal down (the least one, so that it ends), or None."""
    for column in range(width):
        if table[-1][column] < 0:
            return column
    return None


def _leaving(table, base, column):
    """The row that first comes down to 0; of several the one with the least base."""
    best = None
    for at, row in enumerate(table[:-1]):
        if row[column] <= 0:
            continue
        if best is None:
            best = at
            continue
        ours = row[-1] * table[best][column]
        theirs = table[best][-1] * row[column]
        if ours < theirs or (ours == theirs and base[at] < base[best]):
            best = at
    return best


def _pivoted(table, at, column, scale):
    """The table with the column cleared but for row at; all is divided by scale, without a rest."""
    pivot = table[at]
    worth = pivot[column]
    cleared = []
    for row in table:
        less = row[column]
        cleared.append([(worth * ours - less * theirs) // scale for ours, theirs in zip(row, pivot)])
    cleared[at] = pivot
    return cleared


def _lowest(numbers):
    """The numbers divided by their greatest common divisor; they are not all 0."""
    divisor = 0
    for number in numbers:
        divisor = gcd(divisor, number)
    return [number // divisor for number in numbers]
