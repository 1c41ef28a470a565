"""The solver: a form of a book by the walk that never takes a choice back."""

from nestsay.books import made_book
from nestsay.checks import has_thing
from nestsay.errors import BadOrder
from nestsay.forests import room_within
from nestsay.free import first_unheld, rooms_over
from nestsay.links import parts_of
from nestsay.nets import Net, has_bit, least_of, lot_of, without


def form(book):
    """The forest that the walk makes, or None."""
    made_book(book)
    return form_of(Net(book))


def form_by(book, order):
    """The same with the free things that stand first in the order, or None."""
    made_book(book)
    if not _is_order(book[0], order):
        raise BadOrder(-1)
    net = Net(book)
    return walked(net, order, _floor(net), {})[0]


def barred(book):
    """The part that ended the walk, or None."""
    made_book(book)
    return barred_of(Net(book))


def keepable(book):
    """Whether the book has a form."""
    return form(book) is not None


def form_of(net):
    """The same as form, of the net of a book."""
    return plain_walk(net, {})[0]


def barred_of(net):
    """The same as barred, of the net of a book."""
    part = plain_walk(net, {})[1]
    return None if part is None else lot_of(part)


def plain_walk(net, known):
    """What walked tells of the walk that takes the least free things and the least rooms."""
    return walked(net, lot_of(net.whole), _floor(net), known)


def walked(net, order, before, known):
    """The forest that the walk makes and the part that ended it, as bits; one of the two is None.

    Of the rooms over a part it takes the one in which the part's least thing
    lies in the forest before, if that is one of them, else the least. What is
    known has for parts the free thing that stands first in the order, None if
    there is none; a part that is not there is put in behind all others.
    """
    forest = [None for _ in order]
    # The part that is due next stands last.
    waiting = [(part, None) for part in reversed(parts_of(net, net.whole))]
    while waiting:
        part, holder = waiting.pop()
        if part not in known:
            known[part] = _first_free(net, part, order)
        t = known[part]
        if t is None:
            return (None, part)
        if holder is not None:
            forest[t] = (holder, _room_for(net, holder, part, before))
        rest = without(part, t)
        waiting.extend([(each, t) for each in reversed(parts_of(net, rest))])
    return (tuple(forest), None)


def _room_for(net, t, part, before):
    rooms = rooms_over(net, t, part)
    told = room_within(before, least_of(part), t)
    return told if told in rooms else rooms[0]


def _floor(net):
    """The forest in which all things lie on the floor."""
    return tuple([None for _ in net.holds])


def _first_free(net, part, order):
    for t in order:
        if has_bit(part, t) and first_unheld(net, t, part) is None:
            return t
    return None


def _is_order(rooms, order):
    """Whether it is a tuple of all things, each once."""
    if not isinstance(order, tuple):
        return False
    for x in order:
        if not has_thing(rooms, x):
            return False
    return sorted(order) == list(range(len(rooms)))
