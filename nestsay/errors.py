"""The errors of the package."""


class Refused(ValueError):
    """What the package refuses; what tells the argument or its place, kind is the name of the error."""

    def __init__(self, what):
        self.what = what
        self.kind = self.__class__.__name__


class BadRooms(Refused):
    """What is no tuple of the numbers of rooms."""


class BadThing(Refused):
    """What is no thing, or not the other one of two things."""


class BadForest(Refused):
    """What is no forest of the rooms."""


class Ring(Refused):
    """A thing that lies within itself."""


class BadPlace(Refused):
    """What is no place for the thing."""


class Within(Refused):
    """A holder that lies within the thing that is hung into it."""


class BadBook(Refused):
    """What is no book."""


class BadSaying(Refused):
    """What is no saying about the things."""


class BadLot(Refused):
    """What is no lot, or not the lot that is wanted."""


class BadClause(Refused):
    """What is no clause."""


class TooMany(Refused):
    """More than the limit lets."""


class BadNumber(Refused):
    """What is no number within the bounds."""


class Unlike(Refused):
    """Two books with unlike rooms."""


class Barred(Refused):
    """A lot that shows that a book has no form."""


class NotLeast(Refused):
    """A forest that is no least form of the book."""


class BadDeed(Refused):
    """What is no deed."""


class OnFloor(Refused):
    """A thing that lies on the floor."""


class NotFree(Refused):
    """A thing that is not free in the lot of its holder."""


class BadRoom(Refused):
    """A room to which the deed cannot lead."""


class NothingToUndo(Refused):
    """No deed is left to be undone."""


class NothingToRedo(Refused):
    """No deed is left to be done again."""


class BadText(Refused):
    """A text that has a wrong sign or word."""


class NoThing(Refused):
    """A name that no thing has."""


class SameThing(Refused):
    """A thing told of itself."""


class OtherPair(Refused):
    """A thing other than the two that a saying is about."""


class NoRoom(Refused):
    """A room that the thing does not have."""


class Twice(Refused):
    """What stands there already."""


class Missing(Refused):
    """A thing that is not told of."""


class BadRow(Refused):
    """A row that cannot be read."""


class NoSaying(Refused):
    """A name under which the hand has no saying."""


class BadJournal(Refused):
    """A row that the journal cannot have."""


class Pending(Refused):
    """A journal in which something is pending."""


class Torn(Refused):
    """A journal that has a torn piece."""


class BadYard(Refused):
    """What is no yard."""


class BadCode(Refused):
    """What is no code of the crane."""


class Hooked(Refused):
    """A thing that is on the hook already."""


class NoHook(Refused):
    """Nothing is on the hook."""


class BadCut(Refused):
    """A place at which the code cannot be cut."""


class BadWalk(Refused):
    """What is no walk."""


class Touched(Refused):
    """A yard whose forest its journal cannot have left."""


class Elsewhere(Refused):
    """A yard whose forest is not the one on the walk."""


class BadWorld(Refused):
    """What is no world."""


class BadQuestion(Refused):
    """What is no question."""


class BadPaper(Refused):
    """What is no paper."""


class BadAnswer(Refused):
    """What is no answer."""


class BadName(Refused):
    """What is no name."""


class BadDoors(Refused):
    """What is no tuple of the names of rooms."""


class BadOrder(Refused):
    """What is no order of all things."""
