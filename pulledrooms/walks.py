"""Walks: triples (room, pulls, passes), joined, taken backwards and done again."""

from pulledrooms.checks import is_number, is_number_within, is_tuple_of
from pulledrooms.errors import BadTimes, BadWalk, Elsewhere, NotHome
from pulledrooms.houses import back_of, ends_of, is_pass, is_room, need_house, need_room

MOST_TIMES = 9


def is_walk(house, thing):
    """Whether thing is a walk of the house."""
    need_house(house)
    return is_frame(house, thing) and all([is_number(times) for times in thing[1]])


def is_frame(house, thing):
    """Whether thing is a triple like a walk, whatever stands in the place of each pulls."""
    if not is_tuple_of(thing, 3):
        return False
    room, pulls, passes = thing
    if not is_room(house, room) or not isinstance(passes, tuple) or not is_tuple_of(pulls, len(passes) + 1):
        return False
    return all([is_pass(house, step) for step in passes]) and _hang_together(house, room, passes)


def _hang_together(house, room, passes):
    """Whether each pass leads from where the one before it leads to, the first from room."""
    here = room
    for step in passes:
        start, _, there, _ = ends_of(house, step)
        if start != here:
            return False
        here = there
    return True


def need_walk(house, walk):
    """Raises BadHouse, or BadWalk unless walk is a walk of the house."""
    if not is_walk(house, walk):
        raise BadWalk("no walk of the house")


def need_home(house, walk):
    """Raises BadHouse, BadWalk, or NotHome unless walk comes home."""
    need_walk(house, walk)
    if not is_round(house, walk):
        raise NotHome("the walk does not come home")


def room_after(house, walk, many):
    """The room in which walk is behind its first many passes."""
    room, _, passes = walk
    if many == 0:
        return room
    return ends_of(house, passes[many - 1])[2]


def last_room(house, walk):
    """What end_of tells, of what surely is a walk."""
    return room_after(house, walk, len(walk[2]))


def is_round(house, walk):
    """What comes_home tells, of what surely is a walk."""
    return last_room(house, walk) == walk[0]


def joined_up(one, other):
    """One and then other, which surely begins where one ends."""
    room, pulls, passes = one
    _, more, further = other
    return (room, pulls[:-1] + (pulls[-1] + more[0],) + more[1:], passes + further)


def backwards(house, walk):
    """What back tells, of what surely is a walk."""
    _, pulls, passes = walk
    turned = tuple([back_of(step) for step in passes[::-1]])
    return (last_room(house, walk), tuple([-times for times in pulls[::-1]]), turned)


def end_of(house, walk):
    """The room in which walk ends."""
    need_walk(house, walk)
    return last_room(house, walk)


def comes_home(house, walk):
    """Whether walk ends where it begins."""
    need_walk(house, walk)
    return is_round(house, walk)


def joined(house, one, other):
    """The walk one and then other."""
    need_walk(house, one)
    need_walk(house, other)
    if last_room(house, one) != other[0]:
        raise Elsewhere("other does not begin where one ends")
    return joined_up(one, other)


def back(house, walk):
    """The walk backwards."""
    need_walk(house, walk)
    return backwards(house, walk)


def standing(house, room):
    """The walk without passes and pulls in room."""
    need_house(house)
    need_room(house, room)
    return (room, (0,), ())


def power(house, walk, times):
    """The walk joined so many times, backwards for times below 0."""
    need_home(house, walk)
    if not is_number_within(times, -MOST_TIMES, MOST_TIMES):
        raise BadTimes("times is no number from -9 to 9")
    once = backwards(house, walk) if times < 0 else walk
    done = (walk[0], (0,), ())
    for _ in range(abs(times)):
        done = joined_up(done, once)
    return done
