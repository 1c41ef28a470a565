"""The kernel: whether a paper shows that a book has no form."""

from nestsay.books import is_book
from nestsay.checks import has_lot, has_thing, is_pair
from nestsay.links import hangs_together
from nestsay.nets import Net, bits_of, has_bit


def no_right(book, paper):
    """Whether this is a book, and a paper that shows that it cannot be kept."""
    return is_book(book) and paper_shows(book[0], Net(book), paper)


def paper_shows(rooms, net, paper):
    """The same as no_right, of the net of a book with these rooms."""
    if not is_pair(paper):
        return False
    lot, notes = paper
    if not _whole_part(rooms, net, lot):
        return False
    if not isinstance(notes, tuple) or len(notes) != len(lot):
        return False
    for t, note in zip(lot, notes):
        if not _note_shows(rooms, net, lot, t, note):
            return False
    return True


def _note_shows(rooms, net, lot, t, note):
    """Whether no room of t is let to all of the part that the note tells."""
    if not is_pair(note):
        return False
    part, bars = note
    if not _whole_part(rooms, net, part):
        return False
    for c in part:
        if c == t or c not in lot:
            return False
    if not isinstance(bars, tuple) or len(bars) != rooms[t]:
        return False
    for held, z in zip(net.holds[t], bars):
        if not has_thing(rooms, z) or z not in part or has_bit(held, z):
            return False
    return True


def _whole_part(rooms, net, lot):
    """Whether it is an ascending tuple of things that hang together."""
    return has_lot(rooms, lot) and hangs_together(net, bits_of(lot))
