"""Lines: the pulls at one place of a pattern for all k of a row, whole ones and wide ones ([73]).

In a row of numbers k = first + step * j a line (rest_times, rest_more, times, more, bottom) stands
for the wide pulls with the rest rest_times * j + rest_more, modulo what is deep in their room, that
are worth times * j + more, divided by bottom. A scale (primes, deep) tells what bottoms may have,
and how deep each room is; on the scale of whole pulls there are no primes, and each depth is 1.
"""

from math import gcd

from pulledrooms.classes import inverse, solutions
from pulledrooms.houses import ends_of

ALL = (0, 1)


def whole_scale(house):
    """The scale of whole pulls."""
    return ((), (1,) * house.rooms)


def plain_part(primes, number):
    """The number, which is not 0, without all of the primes, with its sign."""
    for prime in primes:
        while number % prime == 0:
            number = number // prime
    return number


def line_of(pair):
    """The line of times * k + more whole pulls, for all k."""
    times, more = pair
    return (times, more, times, more, 1)


def line_along(line, row):
    """The line for the j of the row, told anew by the j in this row."""
    rest_times, rest_more, times, more, bottom = line
    first, step = row
    return (rest_times * step, rest_more + rest_times * first, times * step, more + times * first, bottom)


def row_along(row, other):
    """The row of the numbers of row for the j of the other row."""
    first, step = row
    there, stride = other
    return (first + step * there, step * stride)


def lines_added(one, other):
    """The line of both pulls together."""
    rest_times, rest_more, times, more, bottom = one
    further_times, further_more, many, less, base = other
    divisor = gcd(bottom, base)
    ours, theirs = base // divisor, bottom // divisor
    return (rest_times + further_times, rest_more + further_more, times * ours + many * theirs,
            more * ours + less * theirs, bottom * ours)


def line_carried(house, scale, step, line):
    """(row of the j for which the line can be carried over the pass, line that arrives), or None."""
    primes, deep = scale
    room, leaving, there, arriving = ends_of(house, step)
    plain = plain_part(primes, leaving)
    shared = gcd(leaving, deep[room])
    rows = _rows_of_both(solutions(line[2], -line[3], abs(plain)), solutions(line[0], -line[1], shared))
    if not rows:
        return None
    rest_times, rest_more, times, more, bottom = line_along(line, rows[0])
    turn = inverse(leaving // shared, deep[room] // shared) * arriving
    base = bottom * (leaving // plain)
    return (rows[0], (rest_times // shared * turn % deep[there], rest_more // shared * turn % deep[there],
                      times // plain * arriving, more // plain * arriving, base))


def _rows_of_both(rows, others):
    """The list of at most one row of the j in a row of both lists, of at most one row each."""
    if not rows or not others:
        return []
    first, step = rows[0]
    there, stride = others[0]
    return [row_along(rows[0], row) for row in solutions(step, there - first, stride)]


def rows_of_none(line, depth):
    """The list of at most one row of the j for which the line is no pulls, in a room of this depth."""
    rest_times, rest_more, times, more, _ = line
    rows = solutions(rest_times, -rest_more, depth)
    if times == 0:
        return rows if more == 0 else []
    if more % times != 0 or (rest_more - rest_times * (more // times)) % depth != 0:
        return []
    return [(-more // times, 0)]


def left_by(house, scale, pattern, pairing):
    """(row of the k for which all pairs can be cancelled, line of the pulls that are left), or None.

    A pass that is its own mate stays; the line is then of the pulls behind the last such pass.
    """
    _, pulls, passes = pattern
    row = ALL
    here = line_of(pulls[0])
    waiting = []
    for at, mate in enumerate(pairing):
        behind = line_along(line_of(pulls[at + 1]), row)
        if mate > at:
            waiting.append(here)
            here = behind
        elif mate == at:
            here = behind
        else:
            arrived = line_carried(house, scale, passes[at], here)
            if arrived is None:
                return None
            inner, here = arrived
            row = row_along(row, inner)
            waiting = [line_along(line, inner) for line in waiting]
            here = lines_added(lines_added(waiting.pop(), here), line_along(behind, inner))
    return (row, here)
