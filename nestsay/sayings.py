"""Sayings: which standings of two things are let."""

from nestsay.checks import has_thing
from nestsay.errors import BadSaying
from nestsay.rooms import is_rooms, made_rooms
from nestsay.standings import every_standing, fits_lets, turned_lets


def is_saying(rooms, saying):
    """Whether these are rooms and a saying about things that have them."""
    return is_rooms(rooms) and fits_saying(rooms, saying)


def contrary(rooms, saying):
    """The saying that lets just the standings that this one does not let."""
    made_rooms(rooms)
    if not fits_saying(rooms, saying):
        raise BadSaying(0)
    return other_side(rooms, saying)


def about(saying):
    """The same saying told of y and x."""
    x, y, lets = saying
    return (y, x, turned_lets(lets))


def fits_saying(rooms, saying):
    """Whether it is a saying, of what is known to be rooms."""
    if not isinstance(saying, tuple) or len(saying) != 3:
        return False
    x, y, lets = saying
    if not has_thing(rooms, x) or not has_thing(rooms, y) or x == y:
        return False
    return fits_lets(rooms, x, y, lets)


def other_side(rooms, saying):
    """The same as contrary, of what is known to be rooms and a saying."""
    x, y, lets = saying
    return (x, y, tuple([each for each in every_standing(rooms, x, y) if each not in lets]))
