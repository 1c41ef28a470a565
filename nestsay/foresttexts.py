"""Forests as texts."""

from nestsay.errors import BadText, Missing, NoRoom, Twice
from nestsay.forests import made_forest
from nestsay.words import Words
from nestsay.worlds import made_world, rooms_in


class ForestReader:
    """Reads the text of a forest.

    met has the place of each thing that was read. path has for each "[" that
    is open a list of the thing ahead of it and of the room in which stands
    what is read next.
    """

    def __init__(self, words, world):
        self.words = words
        self.here = world
        self.rooms = rooms_in(world)
        self.met = {}
        self.path = []

    def read_on(self):
        """Read the next word, and what has to stand right behind it."""
        if self.words.word() in ("|", "]"):
            self.leave_room()
        else:
            self.put_thing()

    def leave_room(self):
        """Read the sign that stands behind a room."""
        if not self.path:
            raise BadText(self.words.place())
        holder, room = self.path[-1]
        is_last = room == self.rooms[holder] - 1
        if is_last != (self.words.word() == "]"):
            raise NoRoom(self.words.place())
        self.words.skip()
        if is_last:
            self.path.pop()
        else:
            self.path[-1] = [holder, room + 1]

    def put_thing(self):
        """Read the name of a thing, which lies where the text stands, and what opens its rooms."""
        place = self.words.place()
        x = self.words.known_thing(self.here)
        if x in self.met:
            raise Twice(place)
        self.met[x] = (self.path[-1][0], self.path[-1][1]) if self.path else None
        has_rooms = self.rooms[x] > 0
        if has_rooms != (self.words.word() == "["):
            raise NoRoom(self.words.place())
        if has_rooms:
            self.words.skip()
            self.path.append([x, 0])


def read_forest(world, text):
    """The forest of the things of the world that the text tells."""
    made_world(world)
    return forest_in(Words(text), world)


def print_forest(world, forest):
    """The text of a forest of the things of the world."""
    made_world(world)
    made_forest(rooms_in(world), forest)
    return forest_text(world, forest)


def forest_in(words, world):
    """The forest whose text stands next, up to the end."""
    reader = ForestReader(words, world)
    while words.word() != "":
        reader.read_on()
    if reader.path:
        raise BadText(words.place())
    for x in range(len(reader.rooms)):
        if x not in reader.met:
            raise Missing(x)
    return tuple([reader.met[x] for x in range(len(reader.rooms))])


def forest_text(world, forest):
    """The same as print_forest, of what is known to be a world and a forest of its things."""
    return _text_at(world, forest, None)


def _text_at(world, forest, place):
    """The text of all that lies right at the place."""
    return " ".join([_thing_text(world, forest, x) for x, each in enumerate(forest) if each == place])


def _thing_text(world, forest, x):
    name = world[0][x]
    many = len(world[1][x])
    if many == 0:
        return name
    rooms = [_text_at(world, forest, (x, room)) for room in range(many)]
    return name + "[" + "|".join(rooms) + "]"
