"""Worlds: the names of things and of their rooms."""

from nestsay.checks import is_pair
from nestsay.errors import BadWorld, Refused, TooMany
from nestsay.names import are_doors, is_name
from nestsay.rooms import MOST_THINGS


def made_world(thing):
    """The world, if it is one."""
    if not _is_pair_of_like_tuples(thing):
        raise BadWorld(-1)
    names, doors = thing
    if len(names) > MOST_THINGS:
        raise TooMany(len(names))
    for x, name in enumerate(names):
        if not is_name(name) or name in names[:x] or not are_doors(doors[x]):
            raise BadWorld(x)
    return thing


def is_world(thing):
    """Whether made_world returns it."""
    try:
        made_world(thing)
    except Refused:
        return False
    return True


def rooms_of(world):
    """How many rooms each thing of the world has."""
    made_world(world)
    return rooms_in(world)


def rooms_in(world):
    """The same as rooms_of, of what is known to be a world."""
    return tuple([len(names) for names in world[1]])


def _is_pair_of_like_tuples(thing):
    if not is_pair(thing):
        return False
    one, two = thing
    return isinstance(one, tuple) and isinstance(two, tuple) and len(one) == len(two)
