"""Links: which things must lie one in the other, and the parts that hang together by them."""

from nestsay.books import let, made_book
from nestsay.checks import check_lot
from nestsay.nets import Net, bits_of, least_of, lot_of
from nestsay.standings import APART


def linked(book, x, y):
    """Whether x and y cannot be apart by what is said of the two."""
    return APART not in let(book, x, y)


def parts(book, lot):
    """The parts of the lot, in the order of their least things."""
    made_book(book)
    check_lot(book[0], lot)
    return tuple([lot_of(part) for part in parts_of(Net(book), bits_of(lot))])


def parts_of(net, lot):
    """The parts of a lot, in the order of their least things; lots are told as bits."""
    found = []
    left = lot
    while left != 0:
        part = _least_part(net, left)
        found.append(part)
        left = left & ~part
    return found


def hangs_together(net, lot):
    """Whether the things of the lot hang together; the empty lot is no part."""
    return lot != 0 and _least_part(net, lot) == lot


def _least_part(net, lot):
    """The part that has the least thing of the lot."""
    part = 0
    waiting = lot & -lot
    while waiting != 0:
        x = least_of(waiting)
        part = part | (1 << x)
        waiting = (waiting | net.links[x]) & lot & ~part
    return part
