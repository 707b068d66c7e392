"""What halls show: a Hall in which a walk leads a seat elsewhere, and walks that no hall shows."""

from pulledrooms.errors import BadFitting, TooMany
from pulledrooms.folding import folded_down
from pulledrooms.halls import Hall, pulled
from pulledrooms.houses import House, back_of, ends_of, need_house, steps_from
from pulledrooms.lines import ALL, line_carried, line_of, plain_part, row_along
from pulledrooms.ratios import kept_pulls, lengths_of
from pulledrooms.returns import are_fitting, common_of, rope_of, way_through
from pulledrooms.walks import backwards, joined_up, need_home, room_after
from pulledrooms.wide import is_wide_nothing, shortest_wide, wide_scale, widened

MOST_SHOWING = 5000


def hall_with(house, fitting, walk):
    """A Hall whose rounds have the lengths told, in which the walk leads some seat elsewhere, or None."""
    if not are_fitting(house, fitting):
        raise BadFitting("no fitting numbers of the house")
    need_home(house, walk)
    return _showing_hall(house, fitting, walk)


def hall_for(house, walk):
    """A Hall in which the walk leads some seat elsewhere, or None if it is dead."""
    need_home(house, walk)
    scale = wide_scale(house)
    left, _ = shortest_wide(house, scale, widened(house, scale, walk))
    if is_wide_nothing(left):
        return None
    kept = kept_pulls(_plain_house(house, scale[0]))
    times = _least_telling(scale[0], kept[walk[0]], left)
    fitting = tuple([deep * many * times for deep, many in zip(scale[1], kept)])
    return _showing_hall(house, fitting, walk)


def is_rising(house):
    """Whether one door of one room, with 1 or -1 on one side, is left when doors are folded away."""
    need_house(house)
    doors, _ = folded_down(house)
    # A last door with 1 or -1 that cannot be folded is a loop, so that one room is left, too.
    return len(doors) == 1 and (abs(doors[0][1]) == 1 or abs(doors[0][3]) == 1)


def dead_walk(house):
    """A walk that comes home, is dead and is not nothing, or None if halls show all walks."""
    if lengths_of(house) is not None or is_rising(house):
        return None
    scale = wide_scale(house)
    passes = _way_ahead(house, scale)
    start, _, _, _ = ends_of(house, passes[0])
    _, _, there, _ = ends_of(house, passes[-1])
    # Pulls that widely can be carried all the way go past a pull at its end, for all that halls
    # show. But they cannot be carried over the first pass, nor the pull back over the last one.
    pull = (start, (_least_carried(house, scale, passes),), ())
    way = (start, (0,) * (len(passes) + 1), passes)
    trip = joined_up(joined_up(way, (there, (1,), ())), backwards(house, way))
    return joined_up(joined_up(pull, trip), joined_up(backwards(house, pull), backwards(house, trip)))


def _showing_hall(house, fitting, walk):
    """What hall_with tells, of what surely are fitting numbers and a walk that comes home."""
    room, pulls, passes = walk
    rests = [(times % fitting[room_after(house, walk, at)], 0) for at, times in enumerate(pulls)]
    left, _ = shortest_wide(house, ((), fitting), (room, tuple(rests), passes))
    if is_wide_nothing(left):
        return None
    common = common_of(fitting)
    times = 1
    for each, many in enumerate(_stays(house, left)):
        # As many rounds of the rope as stays take so many common multiples of seats.
        times = max(times, (many * fitting[each] + common - 1) // common)
    seats = common * times
    if seats > MOST_SHOWING:
        raise TooMany(MOST_SHOWING)
    ropes = tuple([rope_of(seats, length) for length in fitting])
    links = _links(house, fitting, left)
    ways = [way_through(pulled(ropes[near], first), pulled(ropes[far], second), links[door])
            for door, (near, first, far, second) in enumerate(house.doors)]
    return Hall(house, ropes, tuple(ways))


def _stays(house, walk):
    """For each room how often the walk stays in it, at its beginning and behind each pass."""
    many = [0 for _ in range(house.rooms)]
    for at in range(len(walk[1])):
        many[room_after(house, walk, at)] += 1
    return many


def _links(house, fitting, walk):
    """For each door the pairs (seat near, seat far) that lead seat 0 of a room along the walk of rests.

    Each stay has a round of its own. As the walk cannot be shortened, it never leaves one by the
    very pulls by which it came, so that no two pairs are in one round of the pulls of a door.
    """
    _, rests, passes = walk
    links = [[] for _ in house.doors]
    met = [0 for _ in range(house.rooms)]
    here = None
    for at, (rest, _) in enumerate(rests):
        room = room_after(house, walk, at)
        first = met[room] * fitting[room]
        met[room] += 1
        if at > 0:
            door, side = passes[at - 1]
            links[door].append((here, first) if side == 0 else (first, here))
        here = first + rest
    return links


def _plain_house(house, primes):
    """The house with the plain parts of the numbers of all doors, in which lengths fit."""
    doors = [(near, plain_part(primes, first), far, plain_part(primes, second))
             for near, first, far, second in house.doors]
    return House(house.rooms, tuple(doors))


def _least_telling(primes, kept, wide):
    """The least number, divided by none of the primes, by so much longer rounds tell the wide walk from nothing."""
    _, wides, passes = wide
    rest, fine = wides[0]
    if passes or rest != 0:
        return 1
    top = fine[0] if isinstance(fine, tuple) else fine
    times = 1
    while top % (kept * times) == 0 or any([times % prime == 0 for prime in primes]):
        times += 1
    return times


def _way_ahead(house, scale):
    """Passes, none followed by its back, the first of which carries wide pulls that it does not carry whole.

    The last one has an arriving number of a size above 1. In each house in which lengths do not
    fit and that is not rising there are such passes.
    """
    primes, deep = scale
    fresh = []
    for room in range(house.rooms):
        for step in steps_from(house, room):
            leaving = ends_of(house, step)[1]
            if deep[room] % (leaving // plain_part(primes, leaving)) != 0:
                fresh.append((step,))
    seen = {way[0]: True for way in fresh}
    while True:
        later = []
        for way in fresh:
            _, _, there, arriving = ends_of(house, way[-1])
            if abs(arriving) > 1:
                return way
            for step in steps_from(house, there):
                if step != back_of(way[-1]) and step not in seen:
                    seen[step] = True
                    later.append(way + (step,))
        fresh = later


def _least_carried(house, scale, passes):
    """The least number of pulls above 0 that, as wide pulls, can be carried over all the passes."""
    row, line = ALL, line_of((1, 0))
    for step in passes:
        inner, line = line_carried(house, scale, step, line)
        row = row_along(row, inner)
    return row[1]
