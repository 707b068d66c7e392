"""Patterns for all k: their plain forms, and what halls show of them."""

from pulledrooms.classes import tidied
from pulledrooms.errors import TooMany
from pulledrooms.halls import need_hall, need_seat, places_along, seat_led
from pulledrooms.houses import back_of, ends_of
from pulledrooms.patterns import filled_with, need_home_pattern, need_pattern, rows_to_nothing
from pulledrooms.returns import common_of, returns_in
from pulledrooms.walks import room_after
from pulledrooms.wide import wide_scale

MOST_TOLD = 2000


def forms_for(house, pattern):
    """The ascending list of pairs (row, form) that tell the plain forms for all k."""
    need_pattern(house, pattern)
    sizes = 1
    for step in pattern[2]:
        sizes = sizes * abs(ends_of(house, step)[1])
    if sizes > MOST_TOLD:
        raise TooMany(MOST_TOLD)
    return [((first, sizes), _form_along(house, pattern, first, sizes)) for first in range(sizes)]


def seat_for(hall, pattern, seat):
    """Rows of the numbers k for which the pattern, filled, leads the seat to itself."""
    need_hall(hall)
    need_home_pattern(hall.house, pattern)
    need_seat(hall, seat)
    returns = returns_in(hall)
    told = [room_after(hall.house, pattern, at) for at, (times, _) in enumerate(pattern[1]) if times != 0]
    common = common_of([returns[room] for room in told])
    if common > MOST_TOLD:
        raise TooMany(MOST_TOLD)
    places = places_along(hall, pattern)
    return tidied([(number, common) for number in range(common)
                   if seat_led(hall, places, filled_with(pattern, number), seat) == seat])


def dead_for(house, pattern):
    """Rows of the numbers k for which the pattern, filled, is dead."""
    need_home_pattern(house, pattern)
    return rows_to_nothing(house, wide_scale(house), pattern)


def _form_along(house, pattern, first, step):
    """The plain form for k = first + step * j, told by j; step is a multiple of the product of all leaving numbers.

    So what is carried over a pass has a rest that is the same for all j.
    """
    room, pulls, passes = pattern
    told = [(times * step, times * first + more) for times, more in pulls]
    kept, aheads = [], []
    times, more = told[0]
    for at, pass_over in enumerate(passes):
        _, leaving, _, arriving = ends_of(house, pass_over)
        rest = more % abs(leaving)
        times = times // leaving * arriving + told[at + 1][0]
        more = (more - rest) // leaving * arriving + told[at + 1][1]
        if rest == 0 and kept and kept[-1] == back_of(pass_over):
            kept.pop()
            more = more + aheads.pop()
        else:
            kept.append(pass_over)
            aheads.append(rest)
    return (room, tuple([(0, rest) for rest in aheads]) + ((times, more),), tuple(kept))
