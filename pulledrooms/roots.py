"""Roots: walks that, done so many times, are one with a walk that goes."""

from pulledrooms.alikeness import rows_for_one
from pulledrooms.checks import is_number_within
from pulledrooms.cores import core_of, is_core
from pulledrooms.errors import BadMany, Keeps, NoCore
from pulledrooms.walks import backwards, joined_up

MOST_DONE = 9


def root_of(house, walk, many):
    """A walk that, done so many times, is one with walk, or None."""
    lead, core = _going_core(house, walk)
    _need_many(many)
    root = _core_root(house, core, many)
    return None if root is None else _led_along(house, lead, root)


def root_pulls(house, walk, many):
    """The list of at most one row of the last pulls with which the first passes of a core are a root of it."""
    _going_core(house, walk)
    if not is_core(house, walk):
        raise NoCore("the walk is no core")
    _need_many(many)
    return _root_rows(house, walk, many)


def greatest_root(house, walk):
    """(many, root): the greatest number such that some walk, done so many times, is one with walk, and such a walk."""
    lead, core = _going_core(house, walk)
    many = len(core[2])
    root = _core_root(house, core, many)
    # Each walk is its own root for 1.
    while root is None:
        many -= 1
        root = _core_root(house, core, many)
    return (many, _led_along(house, lead, root))


def _going_core(house, walk):
    """What core_of tells; raises BadHouse, BadWalk, NotHome, or Keeps if the walk keeps."""
    lead, core = core_of(house, walk)
    if core[2] == ():
        raise Keeps("the walk keeps")
    return (lead, core)


def _need_many(many):
    """Raises BadMany unless many is a number from 2 to 9."""
    if not is_number_within(many, 2, MOST_DONE):
        raise BadMany("many is no number from 2 to 9")


def _led_along(house, lead, walk):
    """The lead, then walk, then the lead backwards."""
    return joined_up(joined_up(lead, walk), backwards(house, lead))


def _core_root(house, core, many):
    """A root of the core, or None."""
    rows = _root_rows(house, core, many)
    if not rows:
        return None
    room, pulls, passes = core
    width = len(passes) // many
    return (room, pulls[:width] + (rows[0][0],), passes[:width])


def _root_rows(house, core, many):
    """What root_pulls tells, of a core that goes."""
    room, pulls, passes = core
    width = len(passes) // many
    if passes != passes[:width] * many:
        return []
    told = [(0, times) for times in pulls[:width]]
    # Where the root ends and begins again, its last pulls and its first ones meet.
    again = [(1, pulls[0])] + told[1:]
    row = told
    for _ in range(many - 1):
        row = row + again
    return rows_for_one(house, (room, tuple(row + [(1, 0)]), passes), core)
