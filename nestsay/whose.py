"""Whose sayings bind: books from which the needless sayings are struck."""

from nestsay.books import made_book
from nestsay.follows import check_clause, contraries
from nestsay.nets import Net
from nestsay.sayings import other_side
from nestsay.solver import form_of


def binding(book):
    """The indices of sayings that cannot all be kept, none of them needless; None if the book can be kept."""
    return reasons(book, ())


def reasons(book, clause):
    """The indices of sayings from which the clause follows, none of them needless; None if it does not follow."""
    made_book(book)
    rooms, sayings = book
    check_clause(rooms, clause)
    against = contraries(rooms, clause)
    left = _indices(sayings)
    if not _clash(book, left, against):
        return None
    for index in range(len(sayings)):
        rest = _less(left, index)
        if _clash(book, rest, against):
            left = rest
    return tuple(left)


def lean(book):
    """The book without the sayings that follow from the others."""
    made_book(book)
    rooms, sayings = book
    left = _indices(sayings)
    for index, saying in enumerate(sayings):
        rest = _less(left, index)
        if _clash(book, rest, [other_side(rooms, saying)]):
            left = rest
    return (rooms, tuple([sayings[index] for index in left]))


def _indices(sayings):
    return list(range(len(sayings)))


def _less(indices, index):
    return [each for each in indices if each != index]


def _clash(book, indices, more):
    """Whether no forest keeps these sayings of the book and more ones."""
    rooms, sayings = book
    said = [sayings[index] for index in indices]
    return form_of(Net((rooms, said + more))) is None
