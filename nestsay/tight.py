"""What some form of a book has, and two books side by side."""

from nestsay.books import made_book
from nestsay.checks import check_few, check_two
from nestsay.errors import Unlike
from nestsay.nets import Net
from nestsay.sayings import other_side
from nestsay.solver import form_of
from nestsay.standings import every_standing


def possible(book, x, y):
    """The standings of x to y that some form of the book has."""
    made_book(book)
    check_two(book[0], x, y)
    return _possible_in(Net(book), book[0], x, y)


def tight(book):
    """What is possible for each two things, the lesser one first."""
    made_book(book)
    rooms = book[0]
    check_few(rooms)
    net = Net(book)
    return tuple([_possible_in(net, rooms, x, y) for x in range(len(rooms)) for y in range(x + 1, len(rooms))])


def implies(one, two):
    """Whether each form of the first book is a form of the second."""
    _check_like(one, two)
    return _only_of(one, two) is None


def alike(one, two):
    """Whether the two books have the same forms."""
    return parting(one, two) is None


def parting(one, two):
    """A form that one of the books alone has, behind the number of that book; None if they are alike."""
    _check_like(one, two)
    found = _only_of(one, two)
    if found is not None:
        return (0, found)
    found = _only_of(two, one)
    if found is not None:
        return (1, found)
    return None


def _possible_in(net, rooms, x, y):
    lets = every_standing(rooms, x, y)
    return tuple([each for each in lets if form_of(net.also([(x, y, (each,))])) is not None])


def _check_like(one, two):
    made_book(one)
    made_book(two)
    if one[0] != two[0]:
        raise Unlike(0)


def _only_of(one, two):
    """A form of the first book against the first saying of the second that does not follow; or None."""
    net = Net(one)
    for saying in two[1]:
        found = form_of(net.also([other_side(one[0], saying)]))
        if found is not None:
            return found
    return None
