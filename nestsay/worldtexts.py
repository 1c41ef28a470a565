"""Worlds as texts."""

from nestsay.errors import BadText, Twice
from nestsay.names import is_name
from nestsay.rooms import MOST_ROOMS, MOST_THINGS
from nestsay.words import Words
from nestsay.worlds import made_world


def read_world(text):
    """The world that the text tells."""
    words = Words(text)
    names = []
    doors = []
    if words.word() != "":
        _read_thing(words, names, doors)
    while words.word() != "":
        words.pick((",",))
        if len(names) == MOST_THINGS:
            raise BadText(words.place())
        _read_thing(words, names, doors)
    return (tuple(names), tuple(doors))


def print_world(world):
    """The text of the world."""
    made_world(world)
    names, doors = world
    return ", ".join([" ".join([name, *doors[x]]) for x, name in enumerate(names)])


def doors_in(words):
    """The names of rooms that stand next, up to as many as a thing may have."""
    found = []
    while is_name(words.word()) and len(found) < MOST_ROOMS:
        found.append(_new_name(words, found))
    return tuple(found)


def _read_thing(words, names, doors):
    names.append(_new_name(words, names))
    doors.append(doors_in(words))


def _new_name(words, taken):
    """A name that is none of those taken."""
    place = words.place()
    name = words.name()
    if name in taken:
        raise Twice(place)
    return name
