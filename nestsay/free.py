"""Free things: those that can be outermost in a lot that is one part."""

from nestsay.books import made_book
from nestsay.checks import check_lot, check_thing
from nestsay.errors import BadLot
from nestsay.links import hangs_together, parts_of
from nestsay.nets import Net, bits_of, without


def over(book, t, part):
    """The rooms of t in which all of the lot may lie, ascending."""
    made_book(book)
    check_thing(book[0], t)
    check_lot(book[0], part)
    if t in part:
        raise BadLot(t)
    return tuple(rooms_over(Net(book), t, bits_of(part)))


def free(book, lot):
    """The free things of a lot that is one part, ascending."""
    made_book(book)
    check_lot(book[0], lot)
    net = Net(book)
    bits = bits_of(lot)
    if not hangs_together(net, bits):
        raise BadLot(-1)
    return tuple([t for t in lot if first_unheld(net, t, bits) is None])


def rooms_over(net, t, part):
    """The rooms of t that are over a lot, told as bits."""
    return [room for room, held in enumerate(net.holds[t]) if part & ~held == 0]


def first_unheld(net, t, lot):
    """The first part of the lot less t over which t has no room; None if t is free."""
    for part in parts_of(net, without(lot, t)):
        if not rooms_over(net, t, part):
            return part
    return None
