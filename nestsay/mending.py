"""Mending: a least form out of any forest."""

from nestsay.books import made_book
from nestsay.errors import Barred
from nestsay.forests import by_depth, made_forest
from nestsay.nets import Net
from nestsay.solver import barred_of, walked


def mended(book, forest):
    """A least form of the book made out of the forest: the one within it, if it is a form."""
    made_book(book)
    made_forest(book[0], forest)
    net = Net(book)
    lot = barred_of(net)
    if lot is not None:
        raise Barred(lot)
    return walked(net, by_depth(forest), forest, {})[0]
