"""The solver: a form of a book by the walk that never takes a choice back."""

from nestsay.books import made_book
from nestsay.checks import has_thing
from nestsay.errors import BadOrder
from nestsay.free import first_unheld, rooms_over
from nestsay.links import parts_of
from nestsay.nets import Net, has_bit, lot_of, without


def form(book):
    """The forest that the walk makes, or None."""
    made_book(book)
    return walk_of(Net(book))[0]


def form_by(book, order):
    """The same with the free things that stand first in the order, or None."""
    made_book(book)
    if not _is_order(book[0], order):
        raise BadOrder(-1)
    return walked(Net(book), order)[0]


def barred(book):
    """The part that ended the walk, or None."""
    made_book(book)
    part = walk_of(Net(book))[1]
    return None if part is None else lot_of(part)


def keepable(book):
    """Whether the book has a form."""
    return form(book) is not None


def walk_of(net):
    """The same as walked, with the least free thing of each part."""
    return walked(net, lot_of(net.whole))


def walked(net, order):
    """The forest that the walk makes and the part that ended it, as bits; one of the two is None."""
    forest = [None for _ in order]
    # The part that is due next stands last.
    waiting = [(part, None) for part in reversed(parts_of(net, net.whole))]
    while waiting:
        part, holder = waiting.pop()
        t = _first_free(net, part, order)
        if t is None:
            return (None, part)
        if holder is not None:
            forest[t] = (holder, rooms_over(net, holder, part)[0])
        rest = without(part, t)
        waiting.extend([(each, t) for each in reversed(parts_of(net, rest))])
    return (tuple(forest), None)


def _first_free(net, part, order):
    for t in order:
        if has_bit(part, t) and first_unheld(net, t, part) is None:
            return t
    return None


def _is_order(rooms, order):
    """Whether it is a tuple of all things, each once."""
    if not isinstance(order, tuple):
        return False
    for x in order:
        if not has_thing(rooms, x):
            return False
    return sorted(order) == list(range(len(rooms)))
