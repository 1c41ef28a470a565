"""Books: rooms and sayings, what these let, and which forests keep them."""

from nestsay.checks import check_two, is_pair
from nestsay.errors import BadBook, BadSaying, Refused, TooMany
from nestsay.forests import is_forest, made_forest
from nestsay.rooms import made_rooms
from nestsay.sayings import fits_saying
from nestsay.standings import every_standing, standing_in, turned_lets

MOST_SAYINGS = 400


def made_book(thing):
    """The book, if it is one."""
    if not is_pair(thing):
        raise BadBook(-1)
    rooms, sayings = thing
    made_rooms(rooms)
    if not isinstance(sayings, tuple):
        raise BadBook(-1)
    if len(sayings) > MOST_SAYINGS:
        raise TooMany(len(sayings))
    for index, saying in enumerate(sayings):
        if not fits_saying(rooms, saying):
            raise BadSaying(index)
    return thing


def is_book(thing):
    """Whether made_book returns it."""
    try:
        made_book(thing)
    except Refused:
        return False
    return True


def let(book, x, y):
    """The standings of x to y that each saying of the two lets."""
    made_book(book)
    check_two(book[0], x, y)
    found = every_standing(book[0], x, y)
    for one, other, lets in book[1]:
        if (one, other) == (x, y):
            found = _both(found, lets)
        if (one, other) == (y, x):
            found = _both(found, turned_lets(lets))
    return found


def keeps(book, forest):
    """Whether this is a book and a form of it."""
    return is_book(book) and is_forest(book[0], forest) and first_broken(book, forest) is None


def broken(book, forest):
    """The index of the first saying that the forest does not keep, or None."""
    made_book(book)
    made_forest(book[0], forest)
    return first_broken(book, forest)


def first_broken(book, forest):
    """The same as broken, of what is known to be a book and a forest of its rooms."""
    for index, (x, y, lets) in enumerate(book[1]):
        if standing_in(forest, x, y) not in lets:
            return index
    return None


def _both(found, lets):
    return tuple([each for each in found if each in lets])
