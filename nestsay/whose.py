"""Whose sayings bind: books from which the needless sayings are struck."""

from nestsay.books import made_book
from nestsay.follows import check_clause, contraries
from nestsay.nets import Net
from nestsay.sayings import other_side
from nestsay.solver import form_of


def binding(book):
    """The indices of sayings that cannot all be kept, none of them needless; None if the book can be kept."""
    return reasons(book, ())


def reasons(book, clause):
    """The indices of sayings from which the clause follows, none of them needless; None if it does not follow."""
    made_book(book)
    rooms, sayings = book
    check_clause(rooms, clause)
    more = contraries(rooms, clause)
    if form_of(Net(book).also(more)) is not None:
        return None
    nets = _nets_from(book)
    left = []
    while form_of(nets[-1].also(more)) is not None:
        index = _last_needed(nets, left[-1] + 1 if left else 0, more)
        left.append(index)
        more = more + [sayings[index]]
    return tuple(left)


def lean(book):
    """The book without the sayings that follow from the others."""
    made_book(book)
    rooms, sayings = book
    left = list(range(len(sayings)))
    for index, saying in enumerate(sayings):
        rest = [each for each in left if each != index]
        said = [sayings[each] for each in rest]
        if form_of(Net((rooms, said + [other_side(rooms, saying)]))) is None:
            left = rest
    return (rooms, tuple([sayings[index] for index in left]))


def _nets_from(book):
    """For each index the net of the sayings from there on; at last the net of none."""
    rooms, sayings = book
    nets = [Net((rooms, ()))]
    for saying in reversed(sayings):
        nets.append(nets[-1].also([saying]))
    return nets[::-1]


def _last_needed(nets, first, more):
    """The last index from which on the sayings cannot be kept with more ones; from the first one on they cannot.

    Those ahead of it are struck: each could be spared as long as those behind
    it were all still there. The later an index is, the fewer sayings clash.
    """
    low = first
    high = len(nets) - 1
    while high - low > 1:
        middle = (low + high) // 2
        if form_of(nets[middle].also(more)) is None:
            low = middle
        else:
            high = middle
    return low
