"""Forms: carrying, cancelling, plain walks, and which walks are one."""

from pulledrooms.checks import is_list, is_number, is_number_within, is_tuple_of
from pulledrooms.errors import BadMove, BadSpot, BadTimes
from pulledrooms.houses import back_of, ends_of, is_pass
from pulledrooms.walks import is_walk, need_walk, room_after


def carried(house, walk, spot, times):
    """The walk with so many pulls carried over its pass spot."""
    need_walk(house, walk)
    if not _is_spot(walk, spot):
        raise BadSpot("spot is no index of a pass of the walk")
    if not is_number(times):
        raise BadTimes("times is no number")
    return _carried_over(house, walk, spot, times)


def shortening_spots(house, walk):
    """The ascending tuple of the spots at which walk can be shortened."""
    need_walk(house, walk)
    return tuple([spot for spot in range(len(walk[2])) if _can_shorten(house, walk, spot)])


def shortened(house, walk, spot):
    """The walk carried back over its pass spot, and cancelled there."""
    need_walk(house, walk)
    if not _is_spot(walk, spot) or not _can_shorten(house, walk, spot):
        raise BadSpot("spot is no spot at which the walk can be shortened")
    return _shorter(house, walk, spot)


def is_plain(house, thing):
    """Whether thing is a walk of the house that is plain."""
    if not is_walk(house, thing):
        return False
    _, pulls, passes = thing
    for spot, step in enumerate(passes):
        leaving = ends_of(house, step)[1]
        if not 0 <= pulls[spot] < abs(leaving) or _can_shorten(house, thing, spot):
            return False
    return True


def plain_form(house, walk):
    """The plain walk that is one with walk."""
    need_walk(house, walk)
    return _reduced(house, walk)[0]


def are_one(house, one, other):
    """Whether both walks are one."""
    need_walk(house, one)
    need_walk(house, other)
    return _reduced(house, one)[0] == _reduced(house, other)[0]


def is_nothing(house, walk):
    """Whether walk is one with standing in its first room."""
    need_walk(house, walk)
    return _stands(_reduced(house, walk)[0])


def spots_to_nothing(house, walk):
    """A list of spots of shortenings that lead walk to standing, or None."""
    need_walk(house, walk)
    spots = []
    left = walk
    spot = _first_spot(house, left)
    while spot is not None:
        spots.append(spot)
        left = _shorter(house, left, spot)
        spot = _first_spot(house, left)
    return spots if _stands(left) else None


def are_spots(house, walk, thing):
    """Whether thing is a list of spots that lead walk to standing."""
    need_walk(house, walk)
    if not is_list(thing):
        return False
    left = walk
    for spot in thing:
        if not _is_spot(left, spot) or not _can_shorten(house, left, spot):
            return False
        left = _shorter(house, left, spot)
    return _stands(left)


def after_move(house, walk, move):
    """The walk behind the move."""
    need_walk(house, walk)
    moved = _moved(house, walk, move)
    if moved is None:
        raise BadMove("no move that can be done")
    return moved


def moves_between(house, one, other):
    """A list of moves that lead one to other, or None."""
    need_walk(house, one)
    need_walk(house, other)
    if one == other:
        return []
    plain, moves = _reduced(house, one)
    same, others = _reduced(house, other)
    if plain != same:
        return None
    return moves + _undone(house, other, others)


def are_moves(house, one, other, thing):
    """Whether thing is a list of moves that lead one to other."""
    need_walk(house, one)
    need_walk(house, other)
    if not is_list(thing):
        return False
    walk = one
    for move in thing:
        walk = _moved(house, walk, move)
        if walk is None:
            return False
    return walk == other


def _is_spot(walk, thing):
    """Whether thing is the index of a pass of walk."""
    return is_number_within(thing, 0, len(walk[2]) - 1)


def _stands(walk):
    """Whether walk has neither passes nor pulls."""
    return walk[1] == (0,)


def _carried_over(house, walk, spot, times):
    """What carried tells, of what surely is a spot and a number."""
    room, pulls, passes = walk
    _, leaving, _, arriving = ends_of(house, passes[spot])
    both = (pulls[spot] - leaving * times, pulls[spot + 1] + arriving * times)
    return (room, pulls[:spot] + both + pulls[spot + 2:], passes)


def _turns_back(walk, spot):
    """Whether the pass behind pass spot is its back."""
    passes = walk[2]
    return spot + 1 < len(passes) and passes[spot + 1] == back_of(passes[spot])


def _cancelled(walk, spot):
    """The walk without its passes spot and spot + 1, between which there are 0 pulls."""
    room, pulls, passes = walk
    together = (pulls[spot] + pulls[spot + 2],)
    return (room, pulls[:spot] + together + pulls[spot + 3:], passes[:spot] + passes[spot + 2:])


def _can_shorten(house, walk, spot):
    """Whether walk can be shortened at spot, the index of one of its passes."""
    _, pulls, passes = walk
    arriving = ends_of(house, passes[spot])[3]
    return _turns_back(walk, spot) and pulls[spot + 1] % arriving == 0


def _shorter(house, walk, spot):
    """What shortened tells, of a spot at which walk surely can be shortened."""
    _, pulls, passes = walk
    arriving = ends_of(house, passes[spot])[3]
    times = pulls[spot + 1] // arriving
    return _cancelled(_carried_over(house, walk, spot, -times), spot)


def _first_spot(house, walk):
    """The least spot at which walk can be shortened, or None."""
    for spot in range(len(walk[2])):
        if _can_shorten(house, walk, spot):
            return spot
    return None


def _reduced(house, walk):
    """The pair (plain form of walk, list of the moves that lead walk to it)."""
    room, pulls, passes = walk
    kept, aheads, moves = [], [], []
    here = pulls[0]
    for step, behind in zip(passes, pulls[1:]):
        _, leaving, _, arriving = ends_of(house, step)
        rest = here % abs(leaving)
        times = (here - rest) // leaving
        if times != 0:
            moves.append(("carry", len(kept), times))
        here = behind + arriving * times
        # The leaving number of a back is the arriving number of the pass ahead of it,
        # so the pulls between both are a multiple of it just if no rest is left.
        if rest == 0 and kept and kept[-1] == back_of(step):
            kept.pop()
            moves.append(("cancel", len(kept)))
            here = aheads.pop() + here
        else:
            kept.append(step)
            aheads.append(rest)
    return (room, tuple(aheads) + (here,), tuple(kept)), moves


def _moved(house, walk, move):
    """The walk behind the move, any value, or None if it is none that can be done."""
    if is_tuple_of(move, 3) and move[0] == "carry":
        _, spot, times = move
        if _is_spot(walk, spot) and is_number(times):
            return _carried_over(house, walk, spot, times)
    elif is_tuple_of(move, 2) and move[0] == "cancel":
        spot = move[1]
        if _is_spot(walk, spot) and _turns_back(walk, spot) and walk[1][spot + 1] == 0:
            return _cancelled(walk, spot)
    elif is_tuple_of(move, 4) and move[0] == "put":
        _, spot, step, ahead = move
        if is_number_within(spot, 0, len(walk[2])) and is_pass(house, step) and is_number(ahead):
            return _put_in(house, walk, spot, step, ahead)
    return None


def _put_in(house, walk, spot, step, ahead):
    """The walk with the pass step and its back in the place of pulls spot, or None."""
    room, pulls, passes = walk
    if ends_of(house, step)[0] != room_after(house, walk, spot):
        return None
    three = (ahead, 0, pulls[spot] - ahead)
    turn = (step, back_of(step))
    return (room, pulls[:spot] + three + pulls[spot + 1:], passes[:spot] + turn + passes[spot:])


def _undone(house, walk, moves):
    """The list of the moves that lead back to walk, to which the moves surely can be done."""
    backs = []
    for move in moves:
        spot = move[1]
        if move[0] == "carry":
            backs.append(("carry", spot, -move[2]))
        else:
            backs.append(("put", spot, walk[2][spot], walk[1][spot]))
        walk = _moved(house, walk, move)
    return backs[::-1]
