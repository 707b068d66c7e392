"""Books of exchanges: which pulls in one room are which in another."""

from heapq import heappop, heappush
from math import lcm

from pulledrooms.checks import is_list, is_tuple_of
from pulledrooms.errors import BadRule, BadRules, BadState, TooMany
from pulledrooms.houses import back_of, need_house
from pulledrooms.moving import is_state, moved_over, need_state

MOST_BOOK_DOORS = 4


def is_rule(house, thing):
    """Whether thing is a rule of the house."""
    need_house(house)
    if not is_tuple_of(thing, 2):
        return False
    great, small = thing
    return is_state(house, great) and is_state(house, small) and _rank(small) < _rank(great)


def led_by(house, rules, state):
    """The state to which the rules lead the state."""
    need_house(house)
    if not is_list(rules) or not all([is_rule(house, rule) for rule in rules]):
        raise BadRules("rules is no list of rules")
    need_state(house, state)
    return _led(rules, state)


def is_book(house, thing):
    """Whether thing is a book of the house."""
    _need_few_doors(house)
    if not is_list(thing) or not all([is_rule(house, rule) for rule in thing]):
        return False
    if not all([one < other for one, other in zip(thing, thing[1:])]):
        return False
    book = _shortest_book(house)
    if not all([_led(book, great) == _led(book, small) for great, small in thing]):
        return False
    # Such rules never leave a class, so they are a book if one of them fits each state but the
    # least of its class; and a rule of book fits each of these.
    return all([_led_on(thing, great) is not None for great, _ in book])


def book_of(house):
    """The only book in which no rule fits a state of another one, nor its own small one."""
    _need_few_doors(house)
    return _shortest_book(house)


def least_state(house, state):
    """The least state to which the state can be moved."""
    need_state(house, state)
    _need_few_doors(house)
    return _led(_shortest_book(house), state)


def are_moved(house, state, other):
    """Whether the states can be moved into one another."""
    _need_states(house, state, other)
    book = _shortest_book(house)
    return _led(book, state) == _led(book, other)


def moved_way(house, state, other):
    """A tuple of passes that move state to other, or None."""
    _need_states(house, state, other)
    links = _completed(house)
    least, way = _led_down(links, state)
    same, homeward = _led_down(links, other)
    if least != same:
        return None
    return _without_rounds(house, state, way + _way_back(homeward))


def rule_way(house, rule):
    """A tuple of passes that move the great state of a rule of the book to its small one."""
    _need_few_doors(house)
    if not is_rule(house, rule) or rule not in _shortest_book(house):
        raise BadRule("rule is none of the book of the house")
    great, _ = rule
    return _without_rounds(house, great, _led_down(_completed(house), great)[1])


def way_down(house, state):
    """A tuple of passes that move the state to its least state."""
    need_state(house, state)
    _need_few_doors(house)
    return _without_rounds(house, state, _led_down(_completed(house), state)[1])


def _need_few_doors(house):
    """Raises BadHouse, or TooMany for a house of more doors than are let."""
    need_house(house)
    if len(house.doors) > MOST_BOOK_DOORS:
        raise TooMany(MOST_BOOK_DOORS)


def _need_states(house, state, other):
    """Raises what are_moved raises."""
    need_state(house, state)
    if not is_state(house, other):
        raise BadState("other is no state of the house")
    _need_few_doors(house)


def _rank(state):
    """What orders states: the size of the number, the room, a number above 0 first."""
    room, number = state
    return (abs(number), room, number < 0)


def _after_rule(great, small, state):
    """The state to which the rule (great, small) leads the state, or None if it does not fit."""
    room, number = state
    if room != great[0] or number % great[1] != 0 or number // great[1] < 0:
        return None
    return (small[0], number // great[1] * small[1])


def _led_on(rules, state):
    """(first rule that fits, state to which it leads the state), or None if none fits."""
    for rule in rules:
        there = _after_rule(rule[0], rule[1], state)
        if there is not None:
            return (rule, there)
    return None


def _led(rules, state):
    """What led_by tells, of what surely are rules and a state."""
    led = _led_on(rules, state)
    while led is not None:
        state = led[1]
        led = _led_on(rules, state)
    return state


def _led_down(links, state):
    """(least state, passes that move the state to it), by links (great, small, passes between)."""
    way = ()
    led = _led_on(links, state)
    while led is not None:
        link, state = led
        way = way + link[2]
        led = _led_on(links, state)
    return (state, way)


def _way_back(way):
    """The passes that move back what the passes of way move."""
    return tuple([back_of(step) for step in way[::-1]])


def _without_rounds(house, state, way):
    """The passes of way that are left when none leads to a state at which it was before."""
    places = {state: 0}
    trail = [state]
    kept = []
    for step in way:
        here = moved_over(house, trail[-1], step)
        trail.append(here)
        kept.append(step)
        if here in places:
            at = places[here]
            for gone in trail[at + 1:-1]:
                places.pop(gone)
            trail = trail[:at + 1]
            kept = kept[:at]
        else:
            places[here] = len(kept)
    return tuple(kept)


def _shortest_book(house):
    """What book_of tells, of a house of few doors."""
    rules = [(great, small) for great, small, _ in _completed(house)]
    return sorted([(great, _led(rules, small)) for great, small in rules])


def _completed(house):
    """A list of links (great, small, passes that move great to small), whose rules lead as a book does.

    No rule fits the great state of another one. By Knuth and Bendix: where two rules fit one
    state and lead it on to two, these are led as far as can be, and a new rule joins what is left.
    """
    links = []
    joins = _door_joins(house)
    while joins:
        _, one, other, way = heappop(joins)
        one, ahead = _led_down(links, one)
        other, behind = _led_down(links, other)
        if one == other:
            continue
        way = _way_back(ahead) + way + behind
        if _rank(one) < _rank(other):
            one, other, way = other, one, _way_back(way)
        new = (one, other, _without_rounds(house, one, way))
        kept = []
        for link in links:
            if _after_rule(one, other, link[0]) is None:
                kept.append(link)
                for join in _joins_between(link, new):
                    heappush(joins, join)
            else:
                heappush(joins, _join(link[0], link[1], link[2]))
        links = kept + [new]
    return links


def _join(one, other, way):
    """Two states that are to be led to one, and passes that move one to other; small states are joined first."""
    return (max(_rank(one), _rank(other)), one, other, way)


def _door_joins(house):
    """The joins that the doors tell."""
    joins = []
    for door, (near, first, far, second) in enumerate(house.doors):
        for sign in (1, -1):
            heappush(joins, _join((near, sign * first), (far, sign * second), ((door, 0),)))
    return joins


def _joins_between(link, other):
    """The join of both states to which the rules lead the least state that both fit; none if they fit none."""
    great, small, way = link
    large, little, passes = other
    if great[0] != large[0] or great[1] * large[1] < 0:
        return []
    both = lcm(great[1], large[1])
    one = (small[0], both // abs(great[1]) * small[1])
    there = (little[0], both // abs(large[1]) * little[1])
    return [_join(one, there, _way_back(way) + passes)]
