"""Rooms: how many rooms each thing has."""

from nestsay.checks import is_number
from nestsay.errors import BadRooms, Refused, TooMany

MOST_THINGS = 24
MOST_ROOMS = 4


def made_rooms(thing):
    """The rooms, if it is such a tuple."""
    if not isinstance(thing, tuple):
        raise BadRooms(-1)
    if len(thing) > MOST_THINGS:
        raise TooMany(len(thing))
    for x, many in enumerate(thing):
        if not is_number(many) or not 0 <= many <= MOST_ROOMS:
            raise BadRooms(x)
    return thing


def is_rooms(thing):
    """Whether made_rooms returns it."""
    try:
        made_rooms(thing)
    except Refused:
        return False
    return True
