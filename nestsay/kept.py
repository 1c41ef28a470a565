"""A kept house: sayings that change, and what was learnt of lots that they leave alone."""

from nestsay.books import MOST_SAYINGS
from nestsay.checks import is_number
from nestsay.errors import BadNumber, BadSaying, NothingToRedo, NothingToUndo, TooMany
from nestsay.history import History
from nestsay.nets import Net, bits_of, lot_of
from nestsay.rooms import made_rooms
from nestsay.sayings import fits_saying
from nestsay.solver import plain_walk


class Kept:
    """Rooms and sayings.

    A deed is a triple (index, saying, stands): whether the saying stands at
    the index behind it. known has for lots, told as bits, the least free thing
    or None; looked has the lots that the last walk put in there.
    """

    def __init__(self, rooms):
        made_rooms(rooms)
        self.rooms = rooms
        self.sayings = []
        self.history = History()
        self.known = {}
        self.looked = ()

    def say(self, saying):
        """Put a saying behind all others."""
        if not fits_saying(self.rooms, saying):
            raise BadSaying(0)
        if len(self.sayings) == MOST_SAYINGS:
            raise TooMany(MOST_SAYINGS + 1)
        self.do_deed((len(self.sayings), saying, True))

    def strike(self, index):
        """Take the saying at the index away."""
        if not is_number(index) or not 0 <= index < len(self.sayings):
            raise BadNumber(index)
        self.do_deed((index, self.sayings[index], False))

    def undo(self):
        """Take back the last deed that stands."""
        if not self.history.past:
            raise NothingToUndo(0)
        index, saying, stands = self.history.past[-1]
        self.set_saying(index, saying, not stands)
        self.history.go_back()

    def redo(self):
        """Do again what was undone last."""
        if not self.history.ahead:
            raise NothingToRedo(0)
        index, saying, stands = self.history.ahead[-1]
        self.set_saying(index, saying, stands)
        self.history.go_on()

    def book(self):
        """The book of the sayings that stand."""
        return (self.rooms, tuple(self.sayings))

    def form(self):
        """The form of the book, or None."""
        return self.go_walk()[0]

    def barred(self):
        """The part that ends the walk, or None."""
        part = self.go_walk()[1]
        return None if part is None else lot_of(part)

    def looks(self):
        """The lots whose free things the last walk worked out anew."""
        return self.looked

    def do_deed(self, deed):
        """Do a new deed."""
        index, saying, stands = deed
        self.set_saying(index, saying, stands)
        self.history.put_in(deed)

    def set_saying(self, index, saying, stands):
        """Let the saying stand at the index or not, and forget the lots of which it tells."""
        if stands:
            self.sayings.insert(index, saying)
        else:
            del self.sayings[index]
        both = bits_of(saying[:2])
        self.known = {part: t for part, t in self.known.items() if part & both != both}

    def go_walk(self):
        """The forest that the walk makes and the part that ended it; one of the two is None."""
        before = len(self.known)
        found = plain_walk(Net(self.book()), self.known)
        # A dict keeps its order: what the walk put in stands behind all else.
        self.looked = tuple([lot_of(part) for part in list(self.known)[before:]])
        return found
