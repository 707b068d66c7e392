"""Houses changed: doors folded away, slid, turned, put in and swapped, and what goes along."""

from pulledrooms.checks import is_list, is_number, is_number_within, is_tuple_of
from pulledrooms.errors import BadChange, BadChanges, BadHall, BadSingle, BadWalk
from pulledrooms.folding import can_be_folded, doors_behind, fold_of
from pulledrooms.halls import Hall, pulled, then, turned, way_over
from pulledrooms.houses import House, are_doors, back_of, ends_of, is_pass, is_room, is_room_count
from pulledrooms.houses import need_house, need_room
from pulledrooms.walks import is_walk, last_room, need_walk, room_after

MOST_CHANGES = 30


def is_change(house, thing):
    """Whether thing is a change of the house."""
    need_house(house)
    return _outcome(house, thing) is not None


def changed(house, change):
    """The House that comes of the change."""
    need_house(house)
    outcome = _outcome(house, change)
    if outcome is None:
        raise BadChange("no change of the house")
    return outcome


def room_along(house, change, room):
    """The number that the room has behind the change, for the gone room that of the kept one."""
    changed(house, change)
    need_room(house, room)
    return _room_along(house, change, room)


def changed_by(house, changes):
    """The House that comes of all changes, one after another."""
    return _houses_met(house, changes)[-1]


def along(house, change, walk):
    """The walk of the changed house that goes along from the walk."""
    changed(house, change)
    need_walk(house, walk)
    return _along(house, change, walk)


def along_by(house, changes, walk):
    """The walk that goes along all changes, one after another."""
    met = _houses_met(house, changes)
    need_walk(house, walk)
    for here, change in zip(met, changes):
        walk = _along(here, change, walk)
    return walk


def along_back(house, change, walk):
    """A walk of the house such that what goes along from it is one with walk."""
    behind = changed(house, change)
    if not is_walk(behind, walk) or not is_room(house, walk[0]) or not is_room(house, last_room(behind, walk)):
        # Behind a fold there are fewer rooms, so that only a room that was put is none of the house.
        raise BadWalk("no walk of the changed house, or one that begins or ends in a room that was put")
    room, pulls, passes = walk
    if change[0] == "fold":
        gone, _, _ = fold_of(house.doors[change[1]])
        room = room + 1 if room >= gone else room
    if change[0] == "turn":
        pulls = _pulls_times(behind, walk, change[1], -1)
    if change[0] == "put":
        _, _, first, second = change
        # What is done in the room that was put is one with so many pulls more where it was put.
        pulls = _pulls_times(behind, walk, house.rooms, first * second)
    return _exchanged((room, pulls, passes), _passes_back(house, change))


def hall_along(house, change, hall):
    """The Hall of the changed house with the same seats."""
    behind = changed(house, change)
    if not isinstance(hall, Hall) or hall.house != house:
        raise BadHall("hall is no Hall of the house")
    ropes = list(hall.ropes)
    if change[0] == "fold":
        gone, _, _ = fold_of(house.doors[change[1]])
        ropes = ropes[:gone] + ropes[gone + 1:]
    if change[0] == "turn":
        ropes[change[1]] = turned(ropes[change[1]])
    if change[0] == "put":
        _, room, first, second = change
        ropes.append(pulled(ropes[room], first * second))
    backs = _passes_back(house, change)
    ways = [_led_over(hall, backs.get((door, 0), ((door, 0),))) for door in range(len(behind.doors))]
    return Hall(behind, tuple(ropes), tuple(ways))


def folded_away(house):
    """(house that is left, changes): the folds of the least door that can be folded, until none can."""
    need_house(house)
    changes = []
    fold = _first_fold(house)
    while fold is not None:
        changes.append(fold)
        house = _outcome(house, fold)
        fold = _first_fold(house)
    return (house, changes)


def single_alike(one, other):
    """Whether turning and swapping lead the one house of one door to the other."""
    _need_single(one)
    _need_single(other)
    _, first, _, second = one.doors[0]
    _, third, _, fourth = other.doors[0]
    return (third, fourth) in ((first, second), (second, first), (-first, -second), (-second, -first))


def _need_single(house):
    """Raises BadSingle unless house is a House with one room and one door."""
    if not isinstance(house, House) or house.rooms != 1 or len(house.doors) != 1:
        raise BadSingle("no House with one room and one door")


def _houses_met(house, changes):
    """The house and what comes of it by each change; raises BadHouse or BadChanges."""
    need_house(house)
    if not is_list(changes) or len(changes) > MOST_CHANGES:
        raise BadChanges("changes is no list of at most 30 changes")
    met = [house]
    for change in changes:
        outcome = _outcome(met[-1], change)
        if outcome is None:
            raise BadChanges("changes is no list of changes, each of what the one before leads to")
        met.append(outcome)
    return met


def _outcome(house, thing):
    """The House that comes of thing, any value, or None if it is no change."""
    told = _told(house, thing)
    if told is None:
        return None
    rooms, doors = told[0], tuple(told[1])
    # All rooms are joined still, as those of house are.
    return House(rooms, doors) if is_room_count(rooms) and are_doors(rooms, doors) else None


def _told(house, thing):
    """(rooms, list of doors) of what comes of thing, perhaps of no House, or None if it has no form of a change."""
    if is_tuple_of(thing, 2):
        word, what = thing
        if word == "fold":
            return _folded(house, what)
        if word == "turn":
            return _turned(house, what)
        if word == "swap":
            return _swapped(house, what)
    elif is_tuple_of(thing, 3) and thing[0] == "slide":
        return _slid(house, thing[1], thing[2])
    elif is_tuple_of(thing, 4) and thing[0] == "put":
        _, room, first, second = thing
        if is_room(house, room) and is_number(second) and abs(second) == 1:
            return (house.rooms + 1, list(house.doors) + [(room, first, house.rooms, second)])
    return None


def _is_door_number(house, thing):
    """Whether thing is the number of a door."""
    return is_number_within(thing, 0, len(house.doors) - 1)


def _folded(house, at):
    """What _told tells of ("fold", at)."""
    if not _is_door_number(house, at) or not can_be_folded(house.doors[at]):
        return None
    gone, _, _ = fold_of(house.doors[at])
    doors = [(_lowered(near, gone), first, _lowered(far, gone), second)
             for near, first, far, second in doors_behind(house.doors, at)]
    return (house.rooms - 1, doors)


def _turned(house, room):
    """What _told tells of ("turn", room)."""
    if not is_room(house, room):
        return None
    doors = [(near, -first if near == room else first, far, -second if far == room else second)
             for near, first, far, second in house.doors]
    return (house.rooms, doors)


def _swapped(house, at):
    """What _told tells of ("swap", at)."""
    if not _is_door_number(house, at):
        return None
    doors = list(house.doors)
    near, first, far, second = doors[at]
    doors[at] = (far, second, near, first)
    return (house.rooms, doors)


def _slid(house, end, over):
    """What _told tells of ("slide", end, over)."""
    if not is_pass(house, end) or not is_pass(house, over) or end[0] == over[0]:
        return None
    room, number, far, second = ends_of(house, end)
    start, leaving, there, arriving = ends_of(house, over)
    if room != start or number % leaving != 0:
        return None
    doors = list(house.doors)
    number = number // leaving * arriving
    doors[end[0]] = (there, number, far, second) if end[1] == 0 else (far, second, there, number)
    return (house.rooms, doors)


def _lowered(number, gone):
    """The number, less by 1 if it is greater than the one that is gone."""
    return number - 1 if number > gone else number


def _first_fold(house):
    """The fold of the least door that can be folded, or None."""
    for at in range(len(house.doors)):
        if _outcome(house, ("fold", at)) is not None:
            return ("fold", at)
    return None


def _room_along(house, change, room):
    """What room_along tells, of what surely is a change and a room."""
    if change[0] != "fold":
        return room
    gone, kept, _ = fold_of(house.doors[change[1]])
    return _lowered(kept if room == gone else room, gone)


def _along(house, change, walk):
    """What along tells, of what surely is a change and a walk."""
    room, pulls, passes = walk
    if change[0] == "fold":
        gone, _, times = fold_of(house.doors[change[1]])
        pulls = _pulls_times(house, walk, gone, times)
    if change[0] == "turn":
        pulls = _pulls_times(house, walk, change[1], -1)
    return _exchanged((_room_along(house, change, room), pulls, passes), _passes_along(house, change))


def _passes_along(house, change):
    """For each pass that does not stay as it is the passes that it becomes."""
    word, what = change[0], change[1]
    if word == "fold":
        later = [(door, side) for door in range(what + 1, len(house.doors)) for side in (0, 1)]
        found = {(door, side): ((door - 1, side),) for door, side in later}
        found[(what, 0)] = found[(what, 1)] = ()
        return found
    if word == "slide":
        over = change[2]
        return {what: (over, what), back_of(what): (back_of(what), back_of(over))}
    return _passes_swapped(change)


def _passes_back(house, change):
    """For each pass of the changed house that does not stay as it is the passes of house that do what it does."""
    word, what = change[0], change[1]
    if word == "fold":
        return _passes_unfolded(house, what)
    if word == "slide":
        over = change[2]
        return {what: (back_of(over), what), back_of(what): (back_of(what), over)}
    if word == "put":
        return {(len(house.doors), 0): (), (len(house.doors), 1): ()}
    return _passes_swapped(change)


def _passes_swapped(change):
    """For a swap the passes over its door, exchanged; otherwise none."""
    word, what = change[0], change[1]
    return {(what, 0): ((what, 1),), (what, 1): ((what, 0),)} if word == "swap" else {}


def _passes_unfolded(house, at):
    """For each pass of the house behind the fold its pass of house, led from the kept room and to it."""
    gone, kept, _ = fold_of(house.doors[at])
    into = (at, 0) if house.doors[at][0] == kept else (at, 1)
    found = {}
    for door in range(len(house.doors) - 1):
        for side in (0, 1):
            step = (door + 1 if door >= at else door, side)
            start, _, there, _ = ends_of(house, step)
            ahead = (into,) if start == gone else ()
            behind = (back_of(into),) if there == gone else ()
            found[(door, side)] = ahead + (step,) + behind
    return found


def _pulls_times(house, walk, room, times):
    """The pulls of the walk, those in the room taken so many times."""
    return tuple([many * times if room_after(house, walk, at) == room else many for at, many in enumerate(walk[1])])


def _exchanged(walk, table):
    """The walk with other passes in the place of those in the table, 0 pulls between them."""
    room, pulls, passes = walk
    told, steps = [pulls[0]], []
    for step, behind in zip(passes, pulls[1:]):
        for each in table.get(step, (step,)):
            steps.append(each)
            told.append(0)
        told[-1] += behind
    return (room, tuple(told), tuple(steps))


def _led_over(hall, steps):
    """The arrangement of the passes, one after another."""
    here = tuple(range(hall.seats))
    for step in steps:
        here = then(here, way_over(hall.ways, step))
    return here
