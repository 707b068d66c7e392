"""Texts of houses and of walks: writing and reading them."""

from pulledrooms.checks import is_list
from pulledrooms.errors import BadText, BadWalks
from pulledrooms.houses import MOST_DOORS, House, is_door, is_room_count, need_house
from pulledrooms.walks import is_walk

DIGITS = "0123456789"
MOST_DIGITS = 60
MOST_PASSES = 60
SIGNS = (">", "<")


def house_text(house):
    """The text that tells house."""
    need_house(house)
    lines = [f"rooms {house.rooms}\n"]
    for near, first, far, second in house.doors:
        lines.append(f"door {near} {first} {far} {second}\n")
    return "".join(lines)


def read_house(text):
    """The House that text tells."""
    sayings = _sayings(text)
    if not sayings:
        raise BadText(0)
    head, words = sayings[0]
    rooms = _told_rooms(words)
    if rooms is None:
        raise BadText(head)
    doors = []
    for line, parts in sayings[1:]:
        door = _told_door(rooms, parts)
        if door is None or len(doors) == MOST_DOORS:
            raise BadText(line)
        doors.append(door)
    return House(rooms, tuple(doors))


def walks_text(house, walks):
    """The text that tells walks, a line for each."""
    need_house(house)
    if not is_list(walks) or not all([is_walk(house, walk) for walk in walks]):
        raise BadWalks("walks is no list of walks of the house")
    return "".join([_walk_line(walk) for walk in walks])


def read_walks(house, text):
    """The list of the walks that text tells."""
    need_house(house)
    walks = []
    for line, words in _sayings(text):
        walk = _told_walk(words)
        # What is not of the form told is None, and so no walk either.
        if not is_walk(house, walk):
            raise BadText(line)
        walks.append(walk)
    return walks


def _sayings(text):
    """The list of the pairs (line, words) of the sayings of text."""
    if not isinstance(text, str):
        raise BadText(0)
    found = []
    for line, row in enumerate(text.split("\n"), start=1):
        # Only spaces part words: split without a separator would take tabs as well.
        words = [word for word in row.split(" ") if word]
        if words and not words[0].startswith("#"):
            found.append((line, words))
    return found


def told_number(word):
    """The number that a number word tells, or None for another word."""
    digits = word.removeprefix("-")
    if not 1 <= len(digits) <= MOST_DIGITS:
        return None
    # isdigit would take digits of other scripts as well.
    if not all([sign in DIGITS for sign in digits]):
        return None
    return int(word)


def _told_rooms(words):
    """The number of rooms that the words tell, or None."""
    if len(words) != 2 or words[0] != "rooms":
        return None
    rooms = told_number(words[1])
    return rooms if is_room_count(rooms) else None


def _told_door(rooms, words):
    """The door that the words tell, or None."""
    if words[0] != "door":
        return None
    door = tuple([told_number(word) for word in words[1:]])
    return door if is_door(rooms, door) else None


def _told_pass(word):
    """The pass that a pass word tells, or None for another word."""
    if word[-1] not in SIGNS or word.startswith("-"):
        return None
    return (told_number(word[:-1]), SIGNS.index(word[-1]))


def _told_walk(words):
    """The triple that the words tell, perhaps no walk, or None if there are no such words."""
    pulls = tuple([told_number(word) for word in words[1::2]])
    passes = tuple([_told_pass(word) for word in words[2::2]])
    if len(passes) > MOST_PASSES:
        return None
    return (told_number(words[0]), pulls, passes)


def _walk_line(walk):
    """The line that tells walk."""
    room, pulls, passes = walk
    words = [str(room), str(pulls[0])]
    for (door, side), times in zip(passes, pulls[1:]):
        words.append(f"{door}{SIGNS[side]}")
        words.append(str(times))
    return " ".join(words) + "\n"
