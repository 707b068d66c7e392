"""Cores: walks that come home, begun later and led along other walks."""

from pulledrooms.checks import is_number_within
from pulledrooms.errors import BadMany
from pulledrooms.forms import is_plain, plain_form
from pulledrooms.houses import back_of, ends_of
from pulledrooms.walks import is_round, joined_up, need_home, room_after


def is_core(house, thing):
    """Whether thing is a walk of the house that is a core."""
    return is_plain(house, thing) and is_round(house, thing) and not _can_be_led(house, thing)


def core_of(house, walk):
    """A pair (lead, core) of which lead, core, lead backwards are one with walk."""
    need_home(house, walk)
    core = plain_form(house, walk)
    lead = (core[0], (0,), ())
    while _can_be_led(house, core):
        lead = joined_up(lead, (core[0], (core[1][0], 0), core[2][:1]))
        core = _within(house, core)
    return (lead, core)


def steps_of(house, walk):
    """The number of passes of a core of walk."""
    return len(core_of(house, walk)[1][2])


def turned_core(house, walk, many):
    """The walk begun so many passes later."""
    need_home(house, walk)
    _, pulls, passes = walk
    if not is_number_within(many, 0, len(passes)):
        raise BadMany("many is no number from 0 up to the number of passes")
    if many == 0:
        return walk
    meeting = (pulls[-1] + pulls[0],)
    turned = pulls[many:-1] + meeting + pulls[1:many] + (0,)
    return (room_after(house, walk, many), turned, passes[many:] + passes[:many])


def _can_be_led(house, walk):
    """Whether the first pass of walk, which comes home, can be cancelled with its last one."""
    _, pulls, passes = walk
    if not passes or passes[0] != back_of(passes[-1]):
        return False
    return (pulls[-1] + pulls[0]) % ends_of(house, passes[-1])[3] == 0


def _within(house, walk):
    """The walk between the first and the last pass of walk, which can be led."""
    _, pulls, passes = walk
    _, leaving, there, arriving = ends_of(house, passes[0])
    carried_in = (pulls[-1] + pulls[0]) // leaving * arriving
    return (there, pulls[1:-2] + (pulls[-2] + carried_in,), passes[1:-1])
