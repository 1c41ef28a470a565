"""The desk: a world that grows, and what several hands say of its things."""

from nestsay.answers import answer
from nestsay.books import MOST_SAYINGS
from nestsay.deskrows import answer_row
from nestsay.entrytexts import book_of, print_entries, read_entries
from nestsay.errors import (BadDoors, BadRow, BadSaying, NoSaying, NothingToRedo, NothingToUndo, Refused,
                            TooMany, Twice)
from nestsay.history import History
from nestsay.names import are_doors, check_name
from nestsay.rooms import MOST_THINGS
from nestsay.sayings import fits_saying
from nestsay.tight import possible
from nestsay.whose import binding, reasons
from nestsay.worlds import made_world, rooms_in
from nestsay.worldtexts import print_world, read_world


class Desk:
    """A world and entries of several hands.

    Each entry has a number, by which entries are in the order in which they
    were first said: standing has those that stand, by their numbers, and many
    is how many were said. A deed is a triple (number, entry, stands): whether
    the entry stands behind it. histories has the history of each hand.
    """

    def __init__(self, world):
        made_world(world)
        self.names, self.doors = world
        self.many = 0
        self.standing = {}
        self.histories = {}

    def thing(self, hand, name, doors):
        """Put a new thing behind all others."""
        check_name(hand)
        check_name(name)
        if name in self.names:
            raise Twice(name)
        if not are_doors(doors):
            raise BadDoors(doors)
        if len(self.names) == MOST_THINGS:
            raise TooMany(MOST_THINGS + 1)
        self.names = self.names + (name,)
        self.doors = self.doors + (doors,)

    def say(self, hand, name, saying):
        """Put in an entry."""
        check_name(hand)
        check_name(name)
        if not fits_saying(rooms_in(self.world()), saying):
            raise BadSaying(0)
        if self.number_of(hand, name) is not None:
            raise Twice(name)
        self.check_room()
        number = self.put_entry((hand, name, saying))
        self.history_of(hand).put_in((number, self.standing[number], True))

    def back(self, hand, name):
        """Take an entry away."""
        check_name(hand)
        check_name(name)
        number = self.number_of(hand, name)
        if number is None:
            raise NoSaying(name)
        self.history_of(hand).put_in((number, self.standing[number], False))
        del self.standing[number]

    def undo(self, hand):
        """Take back the last say or back of the hand that is not undone."""
        check_name(hand)
        history = self.history_of(hand)
        if not history.past:
            raise NothingToUndo(hand)
        number, entry, stands = history.past[-1]
        self.set_entry(number, entry, not stands)
        history.go_back()

    def redo(self, hand):
        """Do again what the hand undid last."""
        check_name(hand)
        history = self.history_of(hand)
        if not history.ahead:
            raise NothingToRedo(hand)
        number, entry, stands = history.ahead[-1]
        self.set_entry(number, entry, stands)
        history.go_on()

    def world(self):
        """The world as it is now."""
        return (self.names, self.doors)

    def entries(self):
        """The entries that stand, in the order in which they were first said."""
        return tuple([self.standing[number] for number in sorted(self.standing)])

    def book(self):
        """The book of the sayings that stand."""
        return book_of(self.world(), self.entries())

    def ask(self, question):
        """The answer of the book."""
        return answer(self.book(), question)

    def where(self, x, y):
        """The standings of x to y that some form of the book has."""
        return possible(self.book(), x, y)

    def whose(self):
        """The entries that cannot all be kept, none of them needless; None if the book can be kept."""
        return self.entries_at(binding(self.book()))

    def whose_for(self, clause):
        """The entries from which the clause follows, none of them needless; None if it does not follow."""
        return self.entries_at(reasons(self.book(), clause))

    def row(self, text):
        """Do or answer a row; returns the text of its answer."""
        try:
            return answer_row(self, text)
        except Refused as e:
            return f"refused: {e.kind} {e.what}"

    def text(self):
        """The text of the world, then those of the entries."""
        return (print_world(self.world()), *print_entries(self.world(), self.entries()))

    def entries_at(self, indices):
        """The entries at these indices, None if there are none."""
        if indices is None:
            return None
        entries = self.entries()
        return tuple([entries[index] for index in indices])

    def number_of(self, hand, name):
        """The number of the standing entry that the hand has under the name, or None."""
        for number, entry in self.standing.items():
            if entry[:2] == (hand, name):
                return number
        return None

    def history_of(self, hand):
        """The history of the hand."""
        if hand not in self.histories:
            self.histories[hand] = History()
        return self.histories[hand]

    def put_entry(self, entry):
        """Let a new entry stand behind all others; returns its number."""
        number = self.many
        self.standing[number] = entry
        self.many = number + 1
        return number

    def set_entry(self, number, entry, stands):
        """Let an entry stand, at its old place, or not."""
        if stands:
            self.check_room()
            self.standing[number] = entry
        else:
            del self.standing[number]

    def check_room(self):
        """Refuse one more entry than may stand."""
        if len(self.standing) == MOST_SAYINGS:
            raise TooMany(MOST_SAYINGS + 1)


def desk_of(rows):
    """The desk that the texts of its world and of its entries tell."""
    if not isinstance(rows, tuple) or not rows:
        raise BadRow((-1, 0))
    world = _world_of(rows[0])
    desk = Desk(world)
    for entry in _entries_of(world, rows[1:]):
        desk.put_entry(entry)
    return desk


def _world_of(text):
    try:
        return read_world(text)
    except Refused as e:
        raise BadRow((0, e.what))


def _entries_of(world, texts):
    try:
        return read_entries(world, texts)
    except BadRow as e:
        index, place = e.what
        raise BadRow((index + 1, place))
