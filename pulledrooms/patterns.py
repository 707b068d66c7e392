"""Patterns: walks with k pulls in them, and for which k they are nothing, one, or shortest."""

from pulledrooms.checks import is_number, is_number_within, is_tuple_of
from pulledrooms.classes import tidied
from pulledrooms.errors import BadNumber, BadPairing, BadPattern, Elsewhere, NotHome
from pulledrooms.houses import GREATEST, back_of, need_house
from pulledrooms.lines import left_by, row_along, rows_of_none, whole_scale
from pulledrooms.walks import is_frame, is_round, last_room

MOST_PASSES = 8


def is_pattern(house, thing):
    """Whether thing is a pattern of the house."""
    need_house(house)
    if not is_frame(house, thing) or len(thing[2]) > MOST_PASSES:
        return False
    return all([_is_told(pair) for pair in thing[1]])


def _is_told(thing):
    """Whether thing is a pair (times, more) that a pattern may have."""
    return is_tuple_of(thing, 2) and all([is_number_within(part, -GREATEST, GREATEST) for part in thing])


def need_pattern(house, pattern):
    """Raises BadHouse, or BadPattern unless pattern is a pattern of the house."""
    if not is_pattern(house, pattern):
        raise BadPattern("no pattern of the house")


def need_home_pattern(house, pattern):
    """Raises BadHouse, BadPattern, or NotHome unless pattern comes home."""
    need_pattern(house, pattern)
    if not is_round(house, pattern):
        raise NotHome("the pattern does not come home")


def filled(house, pattern, number):
    """The walk for k = number."""
    need_pattern(house, pattern)
    if not is_number(number):
        raise BadNumber("number is no number")
    return filled_with(pattern, number)


def filled_with(pattern, number):
    """What filled tells, of what surely is a pattern and a number."""
    room, pulls, passes = pattern
    return (room, tuple([times * number + more for times, more in pulls]), passes)


def nothing_for(house, pattern):
    """Rows of the numbers k for which the pattern, filled, is nothing."""
    need_home_pattern(house, pattern)
    return rows_to_nothing(house, whole_scale(house), pattern)


def one_for(house, pattern, other):
    """Rows of the numbers k for which both patterns, filled, are one walk."""
    need_pattern(house, pattern)
    need_pattern(house, other)
    if pattern[0] != other[0] or last_room(house, pattern) != last_room(house, other):
        raise Elsewhere("the patterns do not begin in one room and end in one room")
    room, pulls, passes = pattern
    _, more, further = other
    turned = [(-times, -number) for times, number in more[::-1]]
    meeting = (pulls[-1][0] + turned[0][0], pulls[-1][1] + turned[0][1])
    homeward = tuple([back_of(step) for step in further[::-1]])
    both = (room, pulls[:-1] + (meeting,) + tuple(turned[1:]), passes + homeward)
    return rows_to_nothing(house, whole_scale(house), both)


def pairings(house, pattern):
    """The ascending list of all pairings of the pattern."""
    need_home_pattern(house, pattern)
    return _pairings_within(pattern[2], 0, len(pattern[2]))


def paired_for(house, pattern, pairing):
    """Rows of the numbers k for which all pairs can be cancelled."""
    need_home_pattern(house, pattern)
    known = _pairings_within(pattern[2], 0, len(pattern[2]))
    if not isinstance(pairing, tuple) or not all([is_number(mate) for mate in pairing]) or pairing not in known:
        raise BadPairing("no pairing of the pattern")
    left = left_by(house, whole_scale(house), pattern, pairing)
    return [] if left is None else [left[0]]


def shortest_for(house, pattern):
    """(least number of passes of plain forms over all k, rows of the k for which it is so many)."""
    need_pattern(house, pattern)
    passes = pattern[2]
    found = {}
    for pairing in _part_pairings(passes, 0):
        left = left_by(house, whole_scale(house), pattern, pairing)
        if left is not None:
            alone = sum([1 for at, mate in enumerate(pairing) if at == mate])
            found.setdefault(alone, []).append(left[0])
    many = min(found)
    return (many, tidied(found[many]))


def rows_to_nothing(house, scale, pattern):
    """Rows of the numbers k for which some pairing cancels all passes, and leaves no pulls on this scale."""
    room, _, passes = pattern
    rows = []
    for pairing in _pairings_within(passes, 0, len(passes)):
        left = left_by(house, scale, pattern, pairing)
        if left is not None:
            row, line = left
            rows.extend([row_along(row, other) for other in rows_of_none(line, scale[1][room])])
    return tidied(rows)


def _pairings_within(passes, start, stop):
    """The ascending list of the pairings of the passes from start on, below stop."""
    if start == stop:
        return [()]
    found = []
    for mate in range(start + 1, stop, 2):
        if passes[mate] != back_of(passes[start]):
            continue
        others = _pairings_within(passes, mate + 1, stop)
        for inner in _pairings_within(passes, start + 1, mate):
            found.extend([(mate,) + inner + (start,) + outer for outer in others])
    return found


def _part_pairings(passes, start):
    """The pairings of some of the passes from start on, each other one its own mate, none within a pair."""
    if start == len(passes):
        return [()]
    found = [(start,) + others for others in _part_pairings(passes, start + 1)]
    for mate in range(start + 1, len(passes), 2):
        if passes[mate] != back_of(passes[start]):
            continue
        others = _part_pairings(passes, mate + 1)
        for inner in _pairings_within(passes, start + 1, mate):
            found.extend([(mate,) + inner + (start,) + outer for outer in others])
    return found
