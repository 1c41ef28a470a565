"""Deeds: small steps that lead from one least form to another one."""

from nestsay.checks import check_thing, is_number
from nestsay.errors import BadDeed, BadRoom, NotFree, OnFloor
from nestsay.forests import put_all
from nestsay.free import first_unheld, rooms_over
from nestsay.leastforms import lot_with, net_of_least
from nestsay.links import parts_of
from nestsay.nets import has_bit, without


def hangs(book, forest, deed):
    """What a crane does at the deed: pairs of a thing and its new place, in order."""
    return hangs_of(net_of_least(book, forest), forest, deed)


def after(book, forest, deed):
    """The least form behind the deed."""
    return forest_after(net_of_least(book, forest), forest, [deed])


def deeds(book, forest):
    """All deeds that are granted in a least form: turns ahead of shifts, each by thing, then by room."""
    net = net_of_least(book, forest)
    held = [x for x, place in enumerate(forest) if place is not None]
    turns = [("turn", x, j) for x in held if _can_turn(net, forest, x) for j in _turn_rooms(net, forest, x)]
    shifts = [("shift", x, j) for x in held for j in _shift_rooms(net, forest, x)]
    return tuple(turns + shifts)


def hangs_of(net, forest, deed):
    """The same as hangs, of what is known to be a least form of the net's book."""
    _check_deed(net, forest, deed)
    kind, x, j = deed
    holder, room = forest[x]
    if kind == "shift":
        return ((x, (holder, j)),)
    part = _part_of_holder(net, forest, x)
    going = [z for z, place in enumerate(forest) if place is not None and place[0] == x and has_bit(part, z)]
    return ((x, forest[holder]), (holder, (x, j))) + tuple([(z, (holder, room)) for z in going])


def forest_after(net, forest, row):
    """The least form behind a row of deeds, each granted behind those ahead of it."""
    for deed in row:
        forest = put_all(forest, hangs_of(net, forest, deed))
    return forest


def _check_deed(net, forest, deed):
    if not _is_deed(deed):
        raise BadDeed(deed)
    kind, x, j = deed
    # A forest is as long as its rooms, so it tells which things there are.
    check_thing(forest, x)
    if forest[x] is None:
        raise OnFloor(x)
    if kind == "turn" and not _can_turn(net, forest, x):
        raise NotFree(x)
    rooms = _turn_rooms(net, forest, x) if kind == "turn" else _shift_rooms(net, forest, x)
    if j not in rooms:
        raise BadRoom(j)


def _is_deed(deed):
    if not isinstance(deed, tuple) or len(deed) != 3:
        return False
    return deed[0] in ("turn", "shift") and is_number(deed[1]) and is_number(deed[2])


def _can_turn(net, forest, x):
    """Whether x is free in the lot of its holder."""
    return first_unheld(net, x, lot_with(forest, forest[x][0])) is None


def _turn_rooms(net, forest, x):
    return rooms_over(net, x, _part_of_holder(net, forest, x))


def _shift_rooms(net, forest, x):
    holder, room = forest[x]
    return [each for each in rooms_over(net, holder, lot_with(forest, x)) if each != room]


def _part_of_holder(net, forest, x):
    """What hangs together with the holder of x within the holder's lot less x."""
    holder = forest[x][0]
    for part in parts_of(net, without(lot_with(forest, holder), x)):
        if has_bit(part, holder):
            return part
    return 0
