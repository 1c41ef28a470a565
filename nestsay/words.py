"""Words: what texts of the language consist of, read one by one from the left."""

from nestsay.errors import BadText, NoThing
from nestsay.names import is_name, fits_word

LONGEST_TEXT = 20000
FIRST_CODE = 32
LAST_CODE = 126
BARRED_CODE = 37


class Words:
    """The words of a text.

    found has pairs of a word and its place, at its end the empty word at the
    length of the text; at is how many words were read.
    """

    def __init__(self, text):
        _check_text(text)
        self.found = _parted(text)
        self.at = 0

    def word(self):
        """The next word, empty where the text ends."""
        return self.found[self.at][0]

    def place(self):
        """The place of the next word."""
        return self.found[self.at][1]

    def skip(self):
        """Read the next word, of which it is known that it can stand there; returns its place."""
        place = self.place()
        self.at = self.at + 1
        return place

    def pick(self, choices):
        """Read the next word, which has to be one of the choices."""
        word = self.word()
        if word not in choices:
            raise BadText(self.place())
        self.skip()
        return word

    def name(self):
        """Read the next word, which has to be a name."""
        word = self.word()
        if not is_name(word):
            raise BadText(self.place())
        self.skip()
        return word

    def known_thing(self, world):
        """Read the next word, which has to be the name of a thing; returns the thing."""
        place = self.place()
        name = self.name()
        if name not in world[0]:
            raise NoThing(place)
        return world[0].index(name)

    def end(self):
        """Refuse one more word."""
        if self.word() != "":
            raise BadText(self.place())


def _check_text(text):
    if not isinstance(text, str):
        raise BadText(-1)
    for index, sign in enumerate(text):
        if index == LONGEST_TEXT or not _is_let(ord(sign)):
            raise BadText(index)


def _is_let(code):
    return FIRST_CODE <= code <= LAST_CODE and code != BARRED_CODE


def _parted(text):
    found = []
    start = None
    # The blank behind the text ends its last word.
    for place, sign in enumerate(text + " "):
        if fits_word(sign):
            start = place if start is None else start
            continue
        if start is not None:
            found.append((text[start:place], start))
            start = None
        if sign != " ":
            found.append((sign, place))
    found.append(("", len(text)))
    return found
