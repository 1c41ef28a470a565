"""Least forms: those in which all that lies in a thing is held there by links."""

from nestsay.books import first_broken, is_book, made_book
from nestsay.errors import NotLeast
from nestsay.forests import is_forest, made_forest, room_within
from nestsay.links import hangs_together
from nestsay.nets import Net, bits_of, has_bit


def least_right(book, forest):
    """Whether this is a book and a least form of it."""
    return is_book(book) and is_forest(book[0], forest) and _least_in(Net(book), book, forest)


def check_least(net, book, forest, which):
    """Refuse a forest that is no least form; which tells it among the arguments."""
    if not _least_in(net, book, forest):
        raise NotLeast(which)


def net_of_least(book, forest):
    """The net of the book; refused are what is no book, and what is no least form of it."""
    made_book(book)
    made_forest(book[0], forest)
    net = Net(book)
    check_least(net, book, forest, 0)
    return net


def lot_with(forest, x):
    """The lot of x and of all things beneath it, told as bits."""
    return bits_of([y for y in range(len(forest)) if y == x or room_within(forest, y, x) is not None])


def top_of(forest, lot):
    """The thing of the lot of a thing, told as bits, in which all others of it lie."""
    for x, place in enumerate(forest):
        if has_bit(lot, x) and (place is None or not has_bit(lot, place[0])):
            return x
    return None


def _least_in(net, book, forest):
    if first_broken(book, forest) is not None:
        return False
    for x in range(len(forest)):
        if not hangs_together(net, lot_with(forest, x)):
            return False
    return True
