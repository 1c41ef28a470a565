"""Sayings are read."""

from nestsay.errors import BadText, NoRoom, OtherPair, SameThing
from nestsay.standings import APART, every_standing, turned_lets
from nestsay.words import Words
from nestsay.worlds import made_world, rooms_in

KINDS = ("in", "around", "with", "apart", "any", "never")
MOST_OPEN = 20
MOST_PLAIN = 40


class SayingReader:
    """Reads the text of one saying.

    pair has the two things of the first plain saying, None ahead of it. What
    the methods return are the standings, let by what they have read, of the
    one of the pair to the other. opened is how many "not" and "(" are open,
    plains how many plain sayings were begun.
    """

    def __init__(self, words, world):
        self.words = words
        self.here = world
        self.rooms = rooms_in(world)
        self.pair = None
        self.opened = 0
        self.plains = 0

    def sums(self):
        """A saying's text: one or more sums."""
        found = self.sum_of_parts()
        while self.words.word() == "or":
            self.words.skip()
            more = self.sum_of_parts()
            found = [each for each in self.all_lets() if each in found or each in more]
        return found

    def sum_of_parts(self):
        """A sum."""
        found = self.part()
        while self.words.word() == "and":
            self.words.skip()
            more = self.part()
            found = [each for each in found if each in more]
        return found

    def part(self):
        """A part."""
        word = self.words.word()
        if word not in ("not", "(") or self.opened == MOST_OPEN:
            return self.plain()
        self.words.skip()
        self.opened = self.opened + 1
        if word == "not":
            hidden = self.part()
            found = [each for each in self.all_lets() if each not in hidden]
        else:
            found = self.sums()
            self.words.pick((")",))
        self.opened = self.opened - 1
        return found

    def plain(self):
        """A plain saying."""
        if self.plains == MOST_PLAIN:
            raise BadText(self.words.place())
        self.plains = self.plains + 1
        x = self.told_thing(None)
        kind = self.words.pick(KINDS)
        y = self.told_thing(x)
        if self.pair is None:
            self.pair = (x, y)
        lets = self.plain_lets(kind, x, y)
        return lets if self.pair == (x, y) else turned_lets(lets)

    def told_thing(self, first):
        """The thing whose name stands next; first is the thing ahead of it in the same plain saying, or None."""
        place = self.words.place()
        x = self.words.known_thing(self.here)
        if x == first:
            raise SameThing(place)
        if self.pair is not None and x not in self.pair:
            raise OtherPair(place)
        return x

    def plain_lets(self, kind, x, y):
        """The standings of x to y that the plain saying lets."""
        if kind == "in":
            return tuple([(kind, room) for room in self.told_rooms(y)])
        if kind == "around":
            return tuple([(kind, room) for room in self.told_rooms(x)])
        if kind == "apart":
            return (APART,)
        if kind == "never":
            return ()
        lets = every_standing(self.rooms, x, y)
        return lets if kind == "any" else tuple([each for each in lets if each != APART])

    def told_rooms(self, holder):
        """The rooms of the holder that stand next, ascending; all of them if none is told."""
        if self.words.word() != ".":
            return list(range(self.rooms[holder]))
        told = []
        while not told or self.words.word() == "/":
            self.words.skip()
            told.append(self.told_room(holder))
        return [room for room in range(self.rooms[holder]) if room in told]

    def told_room(self, holder):
        """The room of the holder whose name stands next."""
        place = self.words.place()
        name = self.words.name()
        doors = self.here[1][holder]
        if name not in doors:
            raise NoRoom(place)
        return doors.index(name)

    def all_lets(self):
        """All standings of the pair."""
        return every_standing(self.rooms, self.pair[0], self.pair[1])


def read_saying(world, text):
    """The saying that the text tells of the things of the world."""
    made_world(world)
    words = Words(text)
    saying = saying_in(words, world)
    words.end()
    return saying


def saying_in(words, world):
    """The saying whose text stands next."""
    reader = SayingReader(words, world)
    lets = reader.sums()
    return (reader.pair[0], reader.pair[1], tuple(lets))
