"""Papers that show that a book has no form."""

from nestsay.books import made_book
from nestsay.free import first_unheld
from nestsay.nets import Net, least_of, lot_of
from nestsay.solver import walk_of


def no_paper(book):
    """The pair (lot, notes) of a book without a form, or None."""
    made_book(book)
    net = Net(book)
    lot = walk_of(net)[1]
    if lot is None:
        return None
    things = lot_of(lot)
    return (things, tuple([_note(net, t, lot) for t in things]))


def _note(net, t, lot):
    """The first part that t cannot hold, and for each room of t a thing that bars it."""
    part = first_unheld(net, t, lot)
    bars = [least_of(part & ~held) for held in net.holds[t]]
    return (lot_of(part), tuple(bars))
