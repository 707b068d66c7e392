"""Ratios: which walks stretch or turn, lengths and signs that fit, pulls that are carried along."""

from math import gcd, lcm

from pulledrooms.checks import is_number, is_tuple_of
from pulledrooms.errors import BadNumber, BadWalk
from pulledrooms.houses import back_of, ends_of, need_house, steps_from
from pulledrooms.walks import is_walk, need_walk


def ratio_of(house, walk):
    """The pair (p, q) of the product of arriving numbers divided by that of leaving numbers."""
    need_walk(house, walk)
    return _ratio(house, walk[2])


def are_lengths(house, thing):
    """Whether thing are lengths of the house."""
    need_house(house)
    if not is_tuple_of(thing, house.rooms) or not all([is_number(length) and length > 0 for length in thing]):
        return False
    return all([abs(first) * thing[near] == abs(second) * thing[far] for near, first, far, second in house.doors])


def lengths_of(house):
    """The lengths that have no common divisor above 1, or None."""
    need_house(house)
    ratios = [_ratio(house, way) for way in ways_from_first(house)]
    common = 1
    for top, _ in ratios:
        common = lcm(common, top)
    # No prime divides all of these: where it divides top most often, it divides no bottom.
    lengths = tuple([common // abs(top) * bottom for top, bottom in ratios])
    return lengths if are_lengths(house, lengths) else None


def stretching_walk(house):
    """A bare walk that comes home and stretches, or None."""
    need_house(house)
    for walk in round_walks(house):
        top, bottom = _ratio(house, walk[2])
        if abs(top) != bottom:
            return walk
    return None


def are_signs(house, thing):
    """Whether thing are signs of the house."""
    need_house(house)
    if not is_tuple_of(thing, house.rooms) or not all([is_number(sign) and abs(sign) == 1 for sign in thing]):
        return False
    return all([first * thing[near] * second * thing[far] > 0 for near, first, far, second in house.doors])


def signs_of(house):
    """The signs that have 1 for room 0, or None."""
    need_house(house)
    signs = tuple([1 if _ratio(house, way)[0] > 0 else -1 for way in ways_from_first(house)])
    return signs if are_signs(house, signs) else None


def turning_walk(house):
    """A bare walk that comes home whose ratio is below 0, or None."""
    need_house(house)
    for walk in round_walks(house):
        if _ratio(house, walk[2])[0] < 0:
            return walk
    return None


def carried_along(house, number, walk):
    """With how many pulls so many pulls arrive at the end of the bare walk, or None."""
    need_house(house)
    if not is_number(number):
        raise BadNumber("number is no number")
    if not is_bare(house, walk):
        raise BadWalk("no bare walk of the house")
    here = number
    for step in walk[2]:
        _, leaving, _, arriving = ends_of(house, step)
        if here % leaving != 0:
            return None
        here = here // leaving * arriving
    return here


def kept_pulls(house):
    """For each room the least number of pulls that each bare walk carries along, or None."""
    lengths = lengths_of(house)
    if lengths is None:
        return None
    common = 1
    for near, first, _, _ in house.doors:
        common = lcm(common, first * lengths[near])
    return tuple([common // length for length in lengths])


def is_bare(house, thing):
    """Whether thing is a walk of the house all of whose pulls are 0."""
    return is_walk(house, thing) and not any(thing[1])


def ways_from_first(house):
    """For each room the passes of a shortest way to it from room 0."""
    ways = {0: ()}
    fresh = [0]
    while fresh:
        later = []
        for room in fresh:
            for step in steps_from(house, room):
                there = ends_of(house, step)[2]
                if there not in ways:
                    ways[there] = ways[room] + (step,)
                    later.append(there)
        fresh = later
    return [ways[room] for room in range(house.rooms)]


def round_walks(house):
    """For each door a bare walk from room 0 to it, over it, and back to room 0.

    All walks that come home have the ratios of these, joined and taken backwards,
    so that they tell whether any walk stretches or turns.
    """
    ways = ways_from_first(house)
    walks = []
    for door, (near, _, far, _) in enumerate(house.doors):
        homeward = tuple([back_of(step) for step in ways[far][::-1]])
        passes = ways[near] + ((door, 0),) + homeward
        walks.append((0, (0,) * (len(passes) + 1), passes))
    return walks


def _ratio(house, passes):
    """The ratio in lowest terms, with the bottom above 0."""
    top = bottom = 1
    for step in passes:
        _, leaving, _, arriving = ends_of(house, step)
        top = top * arriving
        bottom = bottom * leaving
    divisor = gcd(top, bottom)
    if bottom < 0:
        divisor = -divisor
    return (top // divisor, bottom // divisor)
