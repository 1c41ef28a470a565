"""Checks that many files share: numbers, pairs, things, lots."""

from nestsay.errors import BadLot, BadThing, TooMany

# Tables and counts of all least forms are told up to so many things.
MOST_TOLD = 10


def is_number(thing):
    """Whether it is an int other than True and False."""
    return isinstance(thing, int) and not isinstance(thing, bool)


def is_pair(thing):
    """Whether it is a tuple of two."""
    return isinstance(thing, tuple) and len(thing) == 2


def has_thing(rooms, x):
    """Whether x is the number of a thing that has rooms there."""
    return is_number(x) and 0 <= x < len(rooms)


def has_room(rooms, holder, room):
    """Whether holder is a thing and room the number of one of its rooms."""
    return has_thing(rooms, holder) and is_number(room) and 0 <= room < rooms[holder]


def has_lot(rooms, lot):
    """Whether it is an ascending tuple of things."""
    if not isinstance(lot, tuple):
        return False
    before = -1
    for x in lot:
        if not has_thing(rooms, x) or x <= before:
            return False
        before = x
    return True


def check_thing(rooms, x):
    """Refuse x unless it is a thing."""
    if not has_thing(rooms, x):
        raise BadThing(x)


def check_two(rooms, x, y):
    """Refuse x and y unless they are two unlike things."""
    check_thing(rooms, x)
    if not has_thing(rooms, y) or x == y:
        raise BadThing(y)


def check_few(rooms):
    """Refuse more things than tables and counts are told of."""
    if len(rooms) > MOST_TOLD:
        raise TooMany(len(rooms))


def check_lot(rooms, lot):
    """Refuse what is no ascending tuple of things."""
    if not has_lot(rooms, lot):
        raise BadLot(-1)
