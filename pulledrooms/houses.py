"""Houses: rooms, the doors that join them, and the passes over these doors."""

from pulledrooms.checks import is_number_within, is_tuple_of
from pulledrooms.errors import Apart, BadDoors, BadHouse, BadPass, BadRoom, BadRooms

MOST_ROOMS = 12
MOST_DOORS = 20
GREATEST = 999


class House:
    """Rooms with the numbers from 0 on, all joined by doors (near, first, far, second)."""

    def __init__(self, rooms, doors):
        if not is_room_count(rooms):
            raise BadRooms("rooms is no number from 1 to 12")
        if not are_doors(rooms, doors):
            raise BadDoors("doors is no tuple of at most 20 doors")
        apart = _least_apart(rooms, doors)
        if apart is not None:
            raise Apart(apart)
        self.rooms = rooms
        self.doors = doors

    def __eq__(self, other):
        return isinstance(other, House) and self.rooms == other.rooms and self.doors == other.doors


def is_room_count(thing):
    """Whether thing is a number of rooms that a house may have."""
    return is_number_within(thing, 1, MOST_ROOMS)


def is_door(rooms, thing):
    """Whether thing is a door of a house with so many rooms."""
    if not is_tuple_of(thing, 4):
        return False
    near, first, far, second = thing
    joins = is_number_within(near, 0, rooms - 1) and is_number_within(far, 0, rooms - 1)
    return joins and _is_door_number(first) and _is_door_number(second)


def _is_door_number(thing):
    return is_number_within(thing, -GREATEST, GREATEST) and thing != 0


def are_doors(rooms, thing):
    """Whether thing is a tuple of as many doors as a house may have, which has so many rooms."""
    if not isinstance(thing, tuple) or len(thing) > MOST_DOORS:
        return False
    return all([is_door(rooms, door) for door in thing])


def _least_apart(rooms, doors):
    """The least room to which no doors lead from room 0, or None."""
    reached = [room == 0 for room in range(rooms)]
    # Each round reaches one room more at least, as long as there is one to be reached.
    for _ in range(rooms):
        for near, _, far, _ in doors:
            if reached[near] or reached[far]:
                reached[near] = reached[far] = True
    if all(reached):
        return None
    return reached.index(False)


def need_house(house):
    """Raises BadHouse unless house is a House."""
    if not isinstance(house, House):
        raise BadHouse("house is no House")


def is_room(house, thing):
    """Whether thing is a number of a room of the house."""
    return is_number_within(thing, 0, house.rooms - 1)


def need_room(house, room):
    """Raises BadRoom unless room is a number of a room of the house."""
    if not is_room(house, room):
        raise BadRoom("room is no number of a room of the house")


def is_pass(house, thing):
    """Whether thing is a pass of the house."""
    if not is_tuple_of(thing, 2):
        return False
    door, side = thing
    return is_number_within(door, 0, len(house.doors) - 1) and is_number_within(side, 0, 1)


def back_of(step):
    """The pass over the same door that leads the other way."""
    door, side = step
    return (door, 1 - side)


def ends_of(house, step):
    """What numbers_of tells, of what surely is a pass."""
    door, side = step
    near, first, far, second = house.doors[door]
    if side == 0:
        return (near, first, far, second)
    return (far, second, near, first)


def steps_from(house, room):
    """What passes_from tells, of what surely is a room."""
    steps = [(door, side) for door in range(len(house.doors)) for side in (0, 1)]
    return [step for step in steps if ends_of(house, step)[0] == room]


def passes_from(house, room):
    """The ascending list of the passes that lead from room."""
    need_house(house)
    need_room(house, room)
    return steps_from(house, room)


def numbers_of(house, thing):
    """(room from which the pass leads, leaving number, room to which it leads, arriving number)."""
    need_house(house)
    if not is_pass(house, thing):
        raise BadPass("thing is no pass of the house")
    return ends_of(house, thing)
