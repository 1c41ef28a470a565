"""Sayings as texts."""

from nestsay.errors import BadSaying
from nestsay.sayings import fits_saying
from nestsay.standings import APART, every_standing
from nestsay.worlds import made_world, rooms_in


def print_saying(world, saying):
    """The text of a saying about the things of the world."""
    made_world(world)
    if not fits_saying(rooms_in(world), saying):
        raise BadSaying(0)
    return saying_text(world, saying)


def saying_text(world, saying):
    """The same as print_saying, of what is known to be a world and a saying about its things."""
    names, doors = world
    x, y, lets = saying
    if lets == every_standing(rooms_in(world), x, y):
        return f"{names[x]} any {names[y]}"
    if lets == ():
        return f"{names[x]} never {names[y]}"
    told = [f"{names[x]} apart {names[y]}"] if APART in lets else []
    for kind, holder in (("in", y), ("around", x)):
        rooms = [room for each, room in lets if each == kind]
        if rooms:
            told.append(f"{names[x]} {kind} {names[y]}{_rooms_text(doors[holder], rooms)}")
    return " or ".join(told)


def _rooms_text(doors, rooms):
    """What tells the rooms behind the second name: nothing if all rooms are there."""
    if len(rooms) == len(doors):
        return ""
    return "." + "/".join([doors[room] for room in rooms])
