"""Entries as texts: who said what under which name."""

from nestsay.books import MOST_SAYINGS, made_book
from nestsay.errors import BadRow, BadSaying, Refused, TooMany, Twice
from nestsay.names import check_name
from nestsay.readsaying import saying_in
from nestsay.sayings import fits_saying
from nestsay.sayingtexts import saying_text
from nestsay.words import Words
from nestsay.worlds import made_world, rooms_in


def read_entry(world, text):
    """The entry that the text tells."""
    made_world(world)
    return _entry_of(world, text, {})


def print_entry(world, entry):
    """The text of an entry."""
    made_world(world)
    _check_entry(world, entry)
    return _entry_text(world, entry)


def read_entries(world, texts):
    """The entries that the texts tell, in order."""
    made_world(world)
    if not isinstance(texts, tuple):
        raise BadRow((-1, 0))
    if len(texts) > MOST_SAYINGS:
        raise TooMany(len(texts))
    taken = {}
    entries = []
    for index, text in enumerate(texts):
        try:
            entry = _entry_of(world, text, taken)
        except Refused as e:
            raise BadRow((index, e.what))
        taken[entry[:2]] = True
        entries.append(entry)
    return tuple(entries)


def print_entries(world, entries):
    """The texts of the entries, in order."""
    made_world(world)
    for entry in entries:
        _check_entry(world, entry)
    return tuple([_entry_text(world, entry) for entry in entries])


def book_of(world, entries):
    """The book of the sayings of the entries, in order."""
    made_world(world)
    return made_book((rooms_in(world), tuple([entry[2] for entry in entries])))


def _entry_of(world, text, taken):
    """The entry that the text tells, if its hand has not taken its name yet."""
    words = Words(text)
    hand = words.name()
    place = words.place()
    name = words.name()
    if (hand, name) in taken:
        raise Twice(place)
    words.pick((":",))
    saying = saying_in(words, world)
    words.end()
    return (hand, name, saying)


def _entry_text(world, entry):
    hand, name, saying = entry
    return f"{hand} {name}: {saying_text(world, saying)}"


def _check_entry(world, entry):
    hand, name, saying = entry
    check_name(hand)
    check_name(name)
    if not fits_saying(rooms_in(world), saying):
        raise BadSaying(0)
