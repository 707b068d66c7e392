"""Rows of numbers with one step, and what lists of them have."""

from math import gcd, lcm

from pulledrooms.checks import is_list, is_number, is_tuple_of
from pulledrooms.errors import BadNumber, BadRows, TooMany

MOST_ROWS = 200
MOST_COMMON = 2000
FINE = 1000000000


def is_row(thing):
    """Whether thing is a row."""
    if not is_tuple_of(thing, 2):
        return False
    first, step = thing
    if not is_number(first) or not is_number(step):
        return False
    return step == 0 or 0 <= first < step


def are_rows(thing):
    """Whether thing is a list of rows."""
    return is_list(thing) and len(thing) <= MOST_ROWS and all([is_row(row) for row in thing])


def in_rows(rows, number):
    """Whether the rows have the number."""
    _need_rows(rows)
    if not is_number(number):
        raise BadNumber("number is no number")
    return have_number(rows, number)


def rows_met(rows, more):
    """Rows of the numbers that both lists have."""
    _need_rows(rows)
    _need_rows(more)
    met = []
    others = tidied(more)
    for row in tidied(rows):
        for other in others:
            met.extend(_both(row, other))
    return _each_once(met)


def rows_together(rows, more):
    """Rows of the numbers that one of the lists has."""
    _need_rows(rows)
    _need_rows(more)
    return tidied(list(rows) + list(more))


def rows_within(rows, more):
    """Whether more has all numbers of rows."""
    _need_rows(rows)
    _need_rows(more)
    return _lie_within(rows, more)


def same_rows(rows, more):
    """Whether both lists have the same numbers."""
    _need_rows(rows)
    _need_rows(more)
    return _lie_within(rows, more) and _lie_within(more, rows)


def least_rows(rows):
    """The one list for all lists that have the same numbers."""
    _need_rows(rows)
    common = 1
    for _, step in rows:
        if step > 0:
            common = lcm(common, step)
        if common > MOST_COMMON:
            raise TooMany(MOST_COMMON)
    steady = [row for row in rows if row[1] > 0]
    marks = [have_number(steady, number) for number in range(common)]
    step = _least_step(marks)
    singles = [row for row in rows if row[1] == 0 and not marks[row[0] % common]]
    return [(first, step) for first in range(step) if marks[first]] + _each_once(singles)


def have_number(rows, number):
    """What in_rows tells, of what surely are rows, in any number, and a number."""
    return any([_has(row, number) for row in rows])


def tidied(rows):
    """The ascending list of the rows that lie within no other one."""
    each = _each_once(rows)
    steps = _each_once([step for _, step in each])
    here = {row: True for row in each}
    kept = []
    for first, step in each:
        wider = [other for other in steps if other > 0 and other != step and step % other == 0]
        if not any([(first % other, other) in here for other in wider]):
            kept.append((first, step))
    return kept


def _need_rows(rows):
    """Raises BadRows unless rows is a list of rows."""
    if not are_rows(rows):
        raise BadRows("no list of at most 200 rows")


def _each_once(things):
    """The ascending list of the things, without equal ones."""
    return sorted({thing: True for thing in things})


def _has(row, number):
    """Whether the row has the number."""
    first, step = row
    if step == 0:
        return number == first
    return number % step == first


def _both(row, other):
    """The list of at most one row of the numbers that both rows have."""
    if other[1] == 0:
        return [other] if _has(row, other[0]) else []
    first, step = row
    return [(first + step * times, step * width) for times, width in _seen_along(row, [other])]


def _seen_along(row, others):
    """Rows of the numbers j for which first + step * j, first and step of row, is in one of the others."""
    first, step = row
    seen = []
    for there, stride in others:
        seen.extend(solutions(step, there - first, stride))
    return seen


def solutions(times, number, modulus):
    """The list of at most one row of the numbers j for which times * j is number modulo modulus."""
    divisor = gcd(times, modulus)
    if number % divisor != 0:
        return []
    width = modulus // divisor
    return [(number // divisor * inverse(times // divisor, width) % width, width)]


def inverse(number, modulus):
    """The number from 0 on, below modulus, that times number is 1 modulo modulus; they have no common divisor."""
    rest, other = number % modulus, modulus
    here, there = 1, 0
    while rest != 0:
        times = other // rest
        rest, other = other - times * rest, rest
        here, there = there - times * here, here
    return there % modulus


def _least_step(marks):
    """The least number of places by which the marks, told round and round, can be moved on."""
    for step in range(1, len(marks)):
        if marks[step:] + marks[:step] == marks:
            return step
    return len(marks)


def _lie_within(rows, more):
    """What rows_within tells, of what surely are lists of rows."""
    steady = [row for row in more if row[1] > 0]
    for row in tidied(rows):
        if not have_number(more, row[0]):
            return False
        # Of a row with a step the steady rows leave endlessly many numbers or none.
        if row[1] > 0 and not _have_all(_seen_along(row, steady)):
            return False
    return True


def _have_all(rows):
    """Whether the rows, with steps above 0, have all whole numbers.

    They are split by the rests modulo a prime of the least step, and each part by itself again,
    so that no common multiple of the steps is gone through.
    """
    primes = _primes_up_to(len(rows))
    # A step with a greater prime is of no use: see _without_lonely.
    waiting = [[row for row in rows if _is_made_of(primes, row[1])]]
    while waiting:
        left = _of_use(tidied(waiting.pop()), primes)
        if sum([FINE // step + 1 for _, step in left]) < FINE:
            return False
        least = min([step for _, step in left])
        if least > 1:
            prime = min([each for each in primes if least % each == 0])
            waiting.extend([_seen_along((rest, prime), left) for rest in range(prime)])
    return True


def _primes_up_to(most):
    """The ascending list of the primes up to most."""
    primes = []
    for number in range(2, most + 1):
        if all([number % prime != 0 for prime in primes]):
            primes.append(number)
    return primes


def _is_made_of(primes, number):
    """Whether no other primes divide the number, which is above 0."""
    for prime in primes:
        number = number // _power_in(prime, number)
    return number == 1


def _power_in(prime, number):
    """The highest power of the prime that divides the number, which is above 0."""
    power = 1
    while number % (power * prime) == 0:
        power = power * prime
    return power


def _of_use(rows, primes):
    """The rows without those that surely do not help the others to have all numbers."""
    left = rows
    many = len(rows) + 1
    while len(left) < many:
        many = len(left)
        for prime in primes:
            left = _without_lonely(left, prime)
    return left


def _without_lonely(rows, prime):
    """The rows without lonely ones, whose steps have the prime most often, but for no good.

    Let q be the highest power of the prime in a step. A number that is in no row with a lower
    power has companions with all rests modulo q that are alike modulo q divided by the prime,
    and none of them is in such a row, either. So it takes rows with each of these rests.
    """
    powers = [_power_in(prime, step) for _, step in rows]
    top = max(powers, default=1)
    if top == 1:
        return rows
    rests = {}
    for row, power in zip(rows, powers):
        if power == top:
            rests.setdefault(row[0] % (top // prime), {})[row[0] % top] = True
    return [row for row, power in zip(rows, powers)
            if power < top or len(rests[row[0] % (top // prime)]) == prime]
