"""Standings: how two things may stand to one another."""

from nestsay.checks import check_two, is_number, is_pair
from nestsay.forests import made_forest, room_within
from nestsay.rooms import made_rooms

APART = ("apart", 0)
KINDS = ("apart", "in", "around")


def standings(rooms, x, y):
    """All standings of x to y that there can be, in order."""
    made_rooms(rooms)
    check_two(rooms, x, y)
    return every_standing(rooms, x, y)


def turned(standing):
    """The same standing as seen from the other thing."""
    kind, room = standing
    if kind == "in":
        return ("around", room)
    if kind == "around":
        return ("in", room)
    return standing


def standing(rooms, forest, x, y):
    """The standing of x to y in the forest."""
    made_forest(rooms, forest)
    check_two(rooms, x, y)
    return standing_in(forest, x, y)


def standing_in(forest, x, y):
    """The standing of x to y, of what is known to be a forest and two things."""
    room = room_within(forest, x, y)
    if room is not None:
        return ("in", room)
    room = room_within(forest, y, x)
    if room is not None:
        return ("around", room)
    return APART


def every_standing(rooms, x, y):
    """All standings of x to y, of what is known to be rooms and two things."""
    inside = [("in", room) for room in range(rooms[y])]
    outside = [("around", room) for room in range(rooms[x])]
    return (APART, *inside, *outside)


def turned_lets(lets):
    """The standings as seen from the other thing, in order again."""
    seen = [turned(each) for each in lets]
    return tuple([each for kind in KINDS for each in seen if each[0] == kind])


def fits_lets(rooms, x, y, lets):
    """Whether it is a tuple of standings of x to y, each once and in order."""
    if not isinstance(lets, tuple):
        return False
    order = every_standing(rooms, x, y)
    before = -1
    for each in lets:
        # ("in", True) equals ("in", 1), but True is no number.
        if not is_pair(each) or not is_number(each[1]) or each not in order:
            return False
        at = order.index(each)
        if at <= before:
            return False
        before = at
    return True
