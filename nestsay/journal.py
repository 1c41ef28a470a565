"""The journal of a yard: the rows that tell what is about to be done and what is done."""

from nestsay.errors import BadJournal, Pending, Torn
from nestsay.forests import is_forest, put, put_all, room_within
from nestsay.rooms import made_rooms


class Reader:
    """Reads a journal row by row.

    many is how many rows it has read, shuts how many of them are shut rows;
    forest and pending are what they tell, torn is what stands behind them.
    """

    def __init__(self, rooms):
        self.rooms = rooms
        self.things = {str(x): x for x in range(len(rooms))}
        self.places = {"-": None}
        for holder, many in enumerate(rooms):
            for room in range(many):
                self.places[place_word((holder, room))] = (holder, room)
        self.many = 0
        self.shuts = 0
        self.forest = None
        self.pending = None
        self.torn = ""

    def read(self, row):
        """Take in one more row; returns whether it may stand there."""
        words = row.split(" ")
        if len(words) < 2 or words[0] != str(self.many):
            return False
        right = self.take(words[1], words[2:])
        self.many = self.many + 1
        return right

    def take(self, kind, words):
        """Take in a row without its number; returns whether it may stand there."""
        if self.many == 0:
            self.forest = self.told_forest(words)
            return kind == "base" and self.forest is not None
        if kind == "open" and self.pending is None:
            return self.announce(kind, self.told_hangs(words))
        if kind == "lay":
            return self.announce(kind, self.told_forest(words))
        if kind == "shut" and self.pending is not None and len(words) == 0:
            self.close()
            return True
        return False

    def announce(self, kind, told):
        """Let it be pending, unless it is None."""
        if told is None:
            return False
        self.pending = (kind, told)
        return True

    def close(self):
        """What is pending is done."""
        kind, told = self.pending
        self.forest = told if kind == "lay" else put_all(self.forest, told)
        self.pending = None
        self.shuts = self.shuts + 1

    def told_forest(self, words):
        """The forest that place words tell, or None."""
        for word in words:
            if word not in self.places:
                return None
        forest = tuple([self.places[word] for word in words])
        return forest if is_forest(self.rooms, forest) else None

    def told_hangs(self, words):
        """The hangs that words tell, if each of them can be done in its turn, or None."""
        forest = self.forest
        found = []
        moved = []
        for word in words:
            name, _, place = word.partition(":")
            if name not in self.things or place not in self.places:
                return None
            hang = (self.things[name], self.places[place])
            if hang[0] in moved or not _moves(forest, hang):
                return None
            forest = put(forest, hang[0], hang[1])
            moved.append(hang[0])
            found.append(hang)
        return tuple(found) if found else None


def base_text(forest):
    """The row that tells the forest at the beginning."""
    return _row_text(0, "base", _forest_words(forest))


def open_text(number, hangs):
    """The row that announces hangs."""
    return _row_text(number, "open", [f"{x}:{place_word(place)}" for x, place in hangs])


def lay_text(number, forest):
    """The row that announces a forest."""
    return _row_text(number, "lay", _forest_words(forest))


def shut_text(number):
    """The row that tells that what was announced is done."""
    return _row_text(number, "shut", [])


def read_journal(rooms, text):
    """How many rows there are, the forest they tell, what is pending, and the torn piece."""
    made_rooms(rooms)
    journal = journal_of(rooms, text)
    return (journal.many, journal.forest, journal.pending, journal.torn)


def base_only(rooms, text):
    """The journal that has only a base row, of the forest that this one tells."""
    made_rooms(rooms)
    journal = journal_of(rooms, text)
    check_closed(journal)
    return base_text(journal.forest)


def journal_of(rooms, text):
    """The reader that has read the whole text."""
    pieces = text.split("\n")
    if len(pieces) == 1:
        raise BadJournal(0)
    reader = Reader(rooms)
    for index, row in enumerate(pieces[:-1]):
        if not reader.read(row):
            raise BadJournal(index)
    reader.torn = pieces[-1]
    return reader


def check_closed(journal):
    """Refuse a journal in which something is pending or torn."""
    if journal.pending is not None:
        raise Pending(journal.many)
    if journal.torn != "":
        raise Torn(journal.many)


def place_word(place):
    """The word of a place."""
    return "-" if place is None else f"{place[0]}.{place[1]}"


def _row_text(number, kind, words):
    return " ".join([str(number), kind, *words]) + "\n"


def _forest_words(forest):
    return [place_word(place) for place in forest]


def _moves(forest, hang):
    """Whether the hang puts its thing elsewhere, and not into itself."""
    x, place = hang
    if place == forest[x]:
        return False
    return place is None or (place[0] != x and room_within(forest, place[0], x) is None)
