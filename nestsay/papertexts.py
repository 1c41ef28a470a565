"""Papers as texts."""

from nestsay.checks import has_lot, has_thing, is_pair
from nestsay.errors import BadPaper, BadText, Missing, NoRoom, Twice
from nestsay.names import is_name
from nestsay.words import Words
from nestsay.worlds import made_world, rooms_in


class PaperReader:
    """Reads the text of a paper: lot has the things of its lot, notes a note for each thing told so far."""

    def __init__(self, words, world):
        self.words = words
        self.here = world
        self.lot = []
        self.notes = {}

    def read_lot(self):
        """Read all ahead of the notes."""
        self.words.pick(("barred",))
        self.put_new(self.lot)
        while self.words.word() == ",":
            self.words.skip()
            self.put_new(self.lot)
        self.words.pick((":",))

    def read_notes(self):
        """Read all notes."""
        self.read_note()
        while self.words.word() == ";":
            self.words.skip()
            self.read_note()

    def read_note(self):
        """Read one note."""
        t = self.noted_thing()
        self.words.pick(("{",))
        part = []
        while self.words.word() != "}":
            self.put_new(part)
        self.words.skip()
        self.notes[t] = (tuple(sorted(part)), self.bars_of(t))

    def noted_thing(self):
        """The thing whose name begins a note."""
        place = self.words.place()
        t = self.words.known_thing(self.here)
        if t not in self.lot:
            raise BadText(place)
        if t in self.notes:
            raise Twice(place)
        return t

    def bars_of(self, t):
        """The bars of the rooms of t."""
        bars = []
        for _ in self.here[1][t]:
            self.check_bar_next(True)
            bars.append(self.words.known_thing(self.here))
        self.check_bar_next(False)
        return tuple(bars)

    def check_bar_next(self, wanted):
        """Refuse the next word if it is a bar that is not wanted, or none where one is."""
        if is_name(self.words.word()) != wanted:
            raise NoRoom(self.words.place())

    def put_new(self, told):
        """Read the name of a thing, and put the thing behind those told."""
        place = self.words.place()
        x = self.words.known_thing(self.here)
        if x in told:
            raise Twice(place)
        told.append(x)


def read_paper(world, text):
    """The paper about things of the world that the text tells."""
    made_world(world)
    return paper_in(Words(text), world, ("",))


def print_paper(world, paper):
    """The text of a paper about things of the world."""
    made_world(world)
    if not fits_paper(rooms_in(world), paper):
        raise BadPaper(0)
    return paper_text(world, paper)


def fits_paper(rooms, paper):
    """Whether it has the form of a paper, be it right or not."""
    if not is_pair(paper):
        return False
    lot, notes = paper
    if not has_lot(rooms, lot) or len(lot) == 0:
        return False
    if not isinstance(notes, tuple) or len(notes) != len(lot):
        return False
    for t, note in zip(lot, notes):
        if not is_pair(note) or not has_lot(rooms, note[0]) or not _are_bars(rooms, t, note[1]):
            return False
    return True


def paper_in(words, world, ends):
    """The paper whose text stands next; ends are the words that can stand behind it."""
    reader = PaperReader(words, world)
    reader.read_lot()
    reader.read_notes()
    if words.word() not in ends:
        raise BadText(words.place())
    lot = sorted(reader.lot)
    for t in lot:
        if t not in reader.notes:
            raise Missing(t)
    return (tuple(lot), tuple([reader.notes[t] for t in lot]))


def paper_text(world, paper):
    """The same as print_paper, of what is known to be a world and a paper."""
    lot, notes = paper
    told = [_note_text(world, t, note) for t, note in zip(lot, notes)]
    return "barred " + ", ".join(_names_of(world, lot)) + ": " + "; ".join(told)


def _note_text(world, t, note):
    part, bars = note
    inside = " ".join(_names_of(world, part))
    return " ".join([world[0][t], "{" + inside + "}", *_names_of(world, bars)])


def _names_of(world, things):
    return [world[0][x] for x in things]


def _are_bars(rooms, t, bars):
    """Whether it is a tuple of as many things as t has rooms."""
    if not isinstance(bars, tuple) or len(bars) != rooms[t]:
        return False
    for z in bars:
        if not has_thing(rooms, z):
            return False
    return True
