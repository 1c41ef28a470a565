"""Names: what things, rooms, hands and entries may be called."""

from nestsay.errors import BadName
from nestsay.rooms import MOST_ROOMS

LETTERS = "abcdefghijklmnopqrstuvwxyz"
FIGURES = "0123456789"
RESERVED = (
    "in", "around", "with", "apart", "any", "never", "not", "and", "or", "sure", "may",
    "thing", "say", "back", "undo", "redo", "where", "whose", "form", "book", "barred",
)
LONGEST_NAME = 12


def is_name(thing):
    """Whether it is a name."""
    if not isinstance(thing, str) or not 1 <= len(thing) <= LONGEST_NAME:
        return False
    if thing[0] not in LETTERS or thing in RESERVED:
        return False
    for sign in thing:
        if not fits_word(sign):
            return False
    return True


def fits_word(sign):
    """Whether a word of more than one sign may have it."""
    return sign in LETTERS or sign in FIGURES


def are_doors(thing):
    """Whether it is a tuple of unlike names, one for each room of a thing."""
    if not isinstance(thing, tuple) or len(thing) > MOST_ROOMS:
        return False
    for room, name in enumerate(thing):
        if not is_name(name) or name in thing[:room]:
            return False
    return True


def check_name(thing):
    """Refuse what is no name."""
    if not is_name(thing):
        raise BadName(thing)
