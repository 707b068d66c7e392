"""Wide pulls: what no hall can tell apart, and which walks are dead."""

from math import gcd

from pulledrooms.checks import is_list, is_number, is_number_within, is_tuple_of
from pulledrooms.errors import BadPass, BadSpot, BadWide
from pulledrooms.houses import back_of, ends_of, is_pass, need_house
from pulledrooms.lines import line_carried, lines_added, plain_part
from pulledrooms.returns import bounded_primes, deep_part
from pulledrooms.walks import is_frame, need_home, need_walk, room_after


def wide_arrived(house, thing, wide):
    """The wide pulls as which wide arrives over the pass, or None if it cannot be carried."""
    need_house(house)
    if not is_pass(house, thing):
        raise BadPass("thing is no pass of the house")
    scale = wide_scale(house)
    if not _are_wide_pulls(scale, ends_of(house, thing)[0], wide):
        raise BadWide("no wide pulls of the room from which the pass leads")
    return _carried(house, scale, thing, wide)


def is_wide(house, thing):
    """Whether thing is a wide walk of the house."""
    need_house(house)
    if not is_frame(house, thing):
        return False
    scale = wide_scale(house)
    return all([_are_wide_pulls(scale, room_after(house, thing, at), wide) for at, wide in enumerate(thing[1])])


def as_wide(house, walk):
    """The wide walk of whole pulls."""
    need_walk(house, walk)
    return widened(house, wide_scale(house), walk)


def wide_spots(house, wide):
    """The ascending tuple of the spots at which the wide walk can be shortened."""
    _need_wide(house, wide)
    scale = wide_scale(house)
    return tuple([spot for spot in range(len(wide[2])) if _brought_back(house, scale, wide, spot) is not None])


def wide_shortened(house, wide, spot):
    """The wide walk, shortened at spot."""
    _need_wide(house, wide)
    shorter = _shorter(house, wide_scale(house), wide, spot)
    if shorter is None:
        raise BadSpot("spot is no spot at which the wide walk can be shortened")
    return shorter


def dead_spots(house, walk):
    """A list of spots of wide shortenings that lead the walk to nothing, or None."""
    need_home(house, walk)
    scale = wide_scale(house)
    left, spots = shortest_wide(house, scale, widened(house, scale, walk))
    return spots if is_wide_nothing(left) else None


def is_dead(house, walk):
    """Whether the walk leads each seat of each Hall to itself."""
    return dead_spots(house, walk) is not None


def are_dead_spots(house, walk, thing):
    """Whether thing is a list of spots of wide shortenings that lead the walk to nothing."""
    need_home(house, walk)
    if not is_list(thing):
        return False
    scale = wide_scale(house)
    wide = widened(house, scale, walk)
    for spot in thing:
        wide = _shorter(house, scale, wide, spot)
        if wide is None:
            return False
    return is_wide_nothing(wide)


def wide_scale(house):
    """The scale of wide pulls: (bounded primes, deep part)."""
    return (tuple(bounded_primes(house)), deep_part(house))


def widened(house, scale, walk):
    """What as_wide tells, of what surely is a walk."""
    room, pulls, passes = walk
    deep = scale[1]
    wides = [(times % deep[room_after(house, walk, at)], times) for at, times in enumerate(pulls)]
    return (room, tuple(wides), passes)


def shortest_wide(house, scale, wide):
    """(what is left of the wide walk, shortened as long as it can be, list of the spots of the shortenings)."""
    spots = []
    spot = 0
    while spot < len(wide[2]):
        shorter = _shorter(house, scale, wide, spot)
        if shorter is None:
            spot += 1
        else:
            spots.append(spot)
            wide = shorter
            # Only here and one pass ahead a new spot may have come to be.
            spot = max(spot - 1, 0)
    return (wide, spots)


def is_wide_nothing(wide):
    """Whether the wide walk has neither passes nor pulls."""
    return wide[1] == ((0, 0),)


def _need_wide(house, wide):
    """Raises BadHouse, or BadWide unless wide is a wide walk of the house."""
    if not is_wide(house, wide):
        raise BadWide("no wide walk of the house")


def _are_wide_pulls(scale, room, thing):
    """Whether thing are wide pulls in the room."""
    primes, deep = scale
    return is_tuple_of(thing, 2) and is_number_within(thing[0], 0, deep[room] - 1) and _is_fine(primes, thing[1])


def _is_fine(primes, thing):
    """Whether thing is a fine number."""
    if is_number(thing):
        return True
    if not is_tuple_of(thing, 2) or not is_number(thing[0]) or not is_number(thing[1]):
        return False
    top, bottom = thing
    return bottom > 1 and gcd(top, bottom) == 1 and plain_part(primes, bottom) == 1


def _line(wide):
    """The line that stands for these wide pulls, whatever k is."""
    rest, fine = wide
    top, bottom = (fine, 1) if is_number(fine) else fine
    return (0, rest, 0, top, bottom)


def _pulls_of(line, depth):
    """The wide pulls for which such a line stands, in a room that is so deep."""
    _, rest, _, top, bottom = line
    divisor = gcd(top, bottom)
    if bottom == divisor:
        return (rest % depth, top // bottom)
    return (rest % depth, (top // divisor, bottom // divisor))


def _carried(house, scale, step, wide):
    """What wide_arrived tells, of what surely is a pass and wide pulls."""
    arrived = line_carried(house, scale, step, _line(wide))
    if arrived is None:
        return None
    return _pulls_of(arrived[1], scale[1][ends_of(house, step)[2]])


def _added(depth, one, other):
    """Both wide pulls together, in a room that is so deep."""
    return _pulls_of(lines_added(_line(one), _line(other)), depth)


def _brought_back(house, scale, wide, spot):
    """The wide pulls behind pass spot, carried over its back that follows, or None if there are none."""
    _, wides, passes = wide
    if spot + 1 >= len(passes) or passes[spot + 1] != back_of(passes[spot]):
        return None
    return _carried(house, scale, passes[spot + 1], wides[spot + 1])


def _shorter(house, scale, wide, spot):
    """The wide walk, shortened at spot, any value, or None if it cannot be."""
    room, wides, passes = wide
    if not is_number_within(spot, 0, len(passes) - 1):
        return None
    arrived = _brought_back(house, scale, wide, spot)
    if arrived is None:
        return None
    depth = scale[1][room_after(house, wide, spot)]
    together = (_added(depth, _added(depth, wides[spot], arrived), wides[spot + 2]),)
    return (room, wides[:spot] + together + wides[spot + 3:], passes[:spot] + passes[spot + 2:])
