"""Walks that are alike: the leads that join them, and the pulls that go past walks."""

from math import gcd, lcm

from pulledrooms.books import moved_way
from pulledrooms.cores import core_of, turned_core
from pulledrooms.errors import Elsewhere
from pulledrooms.folding import folded_down
from pulledrooms.forms import are_one, plain_form
from pulledrooms.houses import back_of, need_house, need_room
from pulledrooms.lines import left_by, row_along, rows_of_none, whole_scale
from pulledrooms.ratios import lengths_of, signs_of, ways_from_first
from pulledrooms.walks import backwards, joined_up, need_home


def lead_between(house, one, other):
    """A lead that joins both walks, or None if they are not alike."""
    lead, core = core_of(house, one)
    onward, last = core_of(house, other)
    if len(core[2]) != len(last[2]):
        return None
    between = _kept_lead(house, core, last) if core[2] == () else _gone_lead(house, core, last)
    if between is None:
        return None
    return plain_form(house, joined_up(joined_up(lead, between), backwards(house, onward)))


def joining_pulls(house, one, other):
    """The list of at most one row of the numbers x such that pulls x, other, pulls -x and one are one."""
    _need_both_home(house, one, other)
    plain, same = plain_form(house, one), plain_form(house, other)
    if plain[2] != same[2]:
        return []
    return _joining_rows(house, plain, same)


def past_one_another(house, one, other):
    """Whether one and then other, and other and then one, are one."""
    _need_both_home(house, one, other)
    return are_one(house, joined_up(one, other), joined_up(other, one))


def pulls_past(house, walk):
    """The least number of pulls above 0 that go past the walk, or None."""
    need_home(house, walk)
    plain = plain_form(house, walk)
    # No pulls at all go past it, so that there is a row, and it begins with 0.
    step = _joining_rows(house, plain, plain)[0][1]
    return None if step == 0 else step


def pulls_past_all(house, room):
    """The least number above 0 of pulls in the room that go past every walk that comes home to it, or None."""
    need_house(house)
    need_room(house, room)
    lengths = lengths_of(house)
    if lengths is None or signs_of(house) is None:
        return None
    doors, folds = folded_down(house)
    common = 1
    for near, first, _, _ in doors:
        common = lcm(common, first * lengths[near])
    # Without doors one room is left, each pull of which goes past all walks, whatever its length.
    past = [common // length if doors else 1 for length in lengths]
    for gone, kept, times in folds[::-1]:
        past[gone] = past[kept] // gcd(past[kept], times)
    return past[room]


def rows_for_one(house, pattern, walk):
    """The list of at most one row of the k for which the pattern, filled, is one with a plain walk of its passes.

    As no pass goes out, they are one just if the pattern and the walk backwards cancel pass by
    pass, from where they meet.
    """
    room, pulls, passes = pattern
    turned = [(0, -times) for times in walk[1][::-1]]
    meeting = (pulls[-1][0], pulls[-1][1] + turned[0][1])
    homeward = tuple([back_of(step) for step in passes[::-1]])
    both = (room, pulls[:-1] + (meeting,) + tuple(turned[1:]), passes + homeward)
    mates = tuple([2 * len(passes) - 1 - at for at in range(2 * len(passes))])
    left = left_by(house, whole_scale(house), both, mates)
    if left is None:
        return []
    row, line = left
    return [row_along(row, inner) for inner in rows_of_none(line, 1)]


def _need_both_home(house, one, other):
    """Raises what joining_pulls raises."""
    need_home(house, one)
    need_home(house, other)
    if one[0] != other[0]:
        raise Elsewhere("the walks do not begin in one room")


def _joining_rows(house, plain, same):
    """What joining_pulls tells, of plain walks with the same passes that come home."""
    room, pulls, passes = same
    told = [(0, times) for times in pulls]
    told[0] = (told[0][0] + 1, told[0][1])
    told[-1] = (told[-1][0] - 1, told[-1][1])
    return rows_for_one(house, (room, tuple(told), passes), plain)


def _kept_lead(house, core, last):
    """A lead between cores that are pulls alone, or None."""
    room, (times,), _ = core
    there, (many,), _ = last
    if times == 0 or many == 0:
        return _straight_lead(house, room, there) if times == many else None
    way = moved_way(house, (room, times), (there, many))
    return None if way is None else _bare(room, way)


def _gone_lead(house, core, last):
    """A lead between cores with as many passes, at least one, or None."""
    room, pulls, passes = core
    for many in range(len(passes)):
        turned = turned_core(house, core, many)
        rows = _joining_rows(house, plain_form(house, turned), last) if turned[2] == last[2] else []
        if rows:
            ahead = (room, pulls[:many] + (0,), passes[:many])
            return joined_up(ahead, (last[0], (rows[0][0],), ()))
    return None


def _straight_lead(house, room, there):
    """A bare walk from the one room to the other."""
    ways = ways_from_first(house)
    return joined_up(backwards(house, _bare(0, ways[room])), _bare(0, ways[there]))


def _bare(room, passes):
    """The bare walk by the passes from the room."""
    return (room, (0,) * (len(passes) + 1), passes)
