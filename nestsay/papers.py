"""Papers that show that a book has no form."""

from nestsay.books import made_book
from nestsay.free import first_unheld
from nestsay.nets import Net, bits_of, least_of, lot_of
from nestsay.solver import barred_of


def no_paper(book):
    """The pair (lot, notes) of a book without a form, or None."""
    made_book(book)
    return paper_of(Net(book))


def paper_of(net):
    """The same as no_paper, of the net of a book."""
    lot = barred_of(net)
    if lot is None:
        return None
    return (lot, tuple([_note(net, t, bits_of(lot)) for t in lot]))


def _note(net, t, lot):
    """The first part that t cannot hold, and for each room of t a thing that bars it."""
    part = first_unheld(net, t, lot)
    bars = [least_of(part & ~held) for held in net.holds[t]]
    return (lot_of(part), tuple(bars))
