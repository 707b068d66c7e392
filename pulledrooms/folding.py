"""Doors folded away ([90]), however great numbers become; all rooms keep their numbers here."""


def can_be_folded(door):
    """Whether the door joins two unlike rooms and has 1 or -1 on one side at least."""
    near, first, far, second = door
    return near != far and (abs(first) == 1 or abs(second) == 1)


def fold_of(door):
    """(gone room, kept room, m) of a door that can be folded: one pull in the gone room is m pulls in the kept one."""
    near, first, far, second = door
    if abs(second) == 1:
        return (far, near, first * second)
    return (near, far, first * second)


def doors_behind(doors, at):
    """The list of the doors that are left when door at, which can be folded, is folded away."""
    gone, kept, times = fold_of(doors[at])
    left = []
    for other, (near, first, far, second) in enumerate(doors):
        if other == at:
            continue
        if near == gone:
            near, first = kept, first * times
        if far == gone:
            far, second = kept, second * times
        left.append((near, first, far, second))
    return left


def folded_down(house):
    """(doors that are left when no door can be folded any more, list of what fold_of tells of each fold)."""
    doors = list(house.doors)
    folds = []
    at = _first_foldable(doors)
    while at is not None:
        folds.append(fold_of(doors[at]))
        doors = doors_behind(doors, at)
        at = _first_foldable(doors)
    return (doors, folds)


def _first_foldable(doors):
    """The number of the least door that can be folded, or None."""
    for at, door in enumerate(doors):
        if can_be_folded(door):
            return at
    return None
