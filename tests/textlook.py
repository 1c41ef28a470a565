"""The tests' own readers of texts: word by word, with a state for what may stand next.

Each look returns what the text tells, or raises Wrong with the error and its
what. They share nothing with the package but the names of the errors.
"""

import re

from helper import all_standings, swapped
from nestsay import errors

RESERVED = """
    in around with apart any never not and or sure may thing say back undo redo where whose form book barred
""".split()
WORD = re.compile("[a-z0-9]+|[^ a-z0-9]")
NAME = re.compile("[a-z][a-z0-9]{0,11}")
VERBS = ("in", "around", "with", "apart", "any", "never")
# Words of every kind that is let anywhere or nowhere; names of things and rooms are put beside them.
WORDS = RESERVED + list(".,:;/|&()[]{}") + """
    zz yes no abcdefghijkl abcdefghijklm 0 1 7 8 10 007 1234 1a A + _ ~
""".split()


class Wrong(Exception):

    def __init__(self, error, what):
        Exception.__init__(self, error, what)
        self.fault = (error, what)


def bad(place):
    raise Wrong(errors.BadText, place)


def named(word):
    return word not in RESERVED and NAME.fullmatch(word) is not None


def rooms_in(world):
    return tuple(len(doors) for doors in world[1])


def split(text):
    """The words of a text with their places, and at last the end."""
    if type(text) is not str:
        bad(-1)
    for at, sign in enumerate(text):
        if at >= 20000 or re.match("[ -$&-~]", sign) is None or sign == "\n":
            bad(at)
    return [(found.group(), found.start()) for found in WORD.finditer(text)] + [("", len(text))]


def thing(world, word, place):
    if not named(word):
        bad(place)
    if word not in world[0]:
        raise Wrong(errors.NoThing, place)
    return world[0].index(word)


def fresh(word, place, taken):
    """A name that is none of those taken."""
    if not named(word):
        bad(place)
    if word in taken:
        raise Wrong(errors.Twice, place)
    return word


def world_look(text):
    names, doors, state = [], [], "first"
    for word, place in split(text):
        if state == "behind" and (word == "," or word == ""):
            state = "name"
        elif state == "behind":
            if len(doors[-1]) == 4:
                bad(place)
            doors[-1].append(fresh(word, place, doors[-1]))
        elif state == "name" or word:
            if len(names) == 24:
                bad(place)
            names.append(fresh(word, place, names))
            doors.append([])
            state = "behind"
    return tuple(names), tuple(map(tuple, doors))


class SayingLook:
    """Takes the words of one saying's text; done says whether the text may end ahead of the next word."""

    def __init__(self, world):
        self.world = world
        self.rooms = rooms_in(world)
        self.state = "part"
        self.stack = []
        self.plains = []
        # Pieces of an expression: texts, and the numbers of plain sayings.
        self.code = []

    def done(self):
        return self.state in ("dot", "slash", "behind") and "(" not in self.stack

    def take(self, word, place):
        if self.state == "part":
            self.part(word, place)
        elif self.state == "verb":
            if word not in VERBS:
                bad(place)
            self.plains[-1][1] = word
            self.state = "second"
        elif self.state == "second":
            self.plains[-1][2] = self.met(word, place, self.plains[-1][0])
            self.code.append(len(self.plains) - 1)
            self.state = "dot" if self.plains[-1][1] in ("in", "around") else "behind"
        elif self.state == "room":
            self.room(word, place)
        elif (self.state, word) in (("dot", "."), ("slash", "/")):
            self.state = "room"
        else:
            self.behind(word, place)

    def part(self, word, place):
        if word in ("not", "(") and len(self.stack) < 20:
            self.stack.append(word)
            self.code.append(word)
            return
        if len(self.plains) == 40:
            bad(place)
        self.plains.append([self.met(word, place, None), None, None, []])
        self.state = "verb"

    def met(self, word, place, first):
        x = thing(self.world, word, place)
        if x == first:
            raise Wrong(errors.SameThing, place)
        if self.plains and self.plains[0][2] is not None and x not in (self.plains[0][0], self.plains[0][2]):
            raise Wrong(errors.OtherPair, place)
        return x

    def room(self, word, place):
        if not named(word):
            bad(place)
        x, verb, y, told = self.plains[-1]
        doors = self.world[1][y if verb == "in" else x]
        if word not in doors:
            raise Wrong(errors.NoRoom, place)
        told.append(doors.index(word))
        self.state = "slash"

    def behind(self, word, place):
        while self.stack and self.stack[-1] == "not":
            self.stack.pop()
        if word in ("and", "or"):
            self.state = "part"
        elif word == ")" and self.stack:
            self.stack.pop()
            self.state = "behind"
        else:
            bad(place)
        self.code.append(word)

    def saying(self):
        x, _, y, _ = self.plains[0]
        return x, y, tuple(each for each in all_standings(self.rooms, x, y) if self.lets(each))

    def lets(self, standing):
        """Whether the text lets this standing of the first thing to the second."""
        return eval(" ".join(str(self.plain_lets(self.plains[piece], standing)) if type(piece) is int else piece
                             for piece in self.code))

    def plain_lets(self, plain, standing):
        x, verb, _, told = plain
        kind, room = standing if x == self.plains[0][0] else swapped(standing)
        if verb in ("in", "around"):
            return kind == verb and (not told or room in told)
        return {"with": kind != "apart", "apart": kind == "apart", "any": True, "never": False}[verb]


def saying_from(world, row, at, ends):
    """The saying that stands from there on up to one of the words that may end it, and where that stands."""
    look = SayingLook(world)
    while not (look.done() and row[at][0] in ends):
        look.take(*row[at])
        at += 1
    return look.saying(), at


def saying_look(world, text):
    return saying_from(world, split(text), 0, ("",))[0]


def question_from(world, row, at):
    word, place = row[at]
    if word not in ("sure", "may"):
        bad(place)
    outer, inner = "&|" if word == "sure" else "|&"
    rows = [[]]
    sign = None
    while sign != "":
        ends = [""] + [outer] * (len(rows) < 8) + [inner] * (len(rows[-1]) < 7)
        saying, at = saying_from(world, row, at + 1, ends)
        rows[-1].append(saying)
        sign = row[at][0]
        if sign == outer:
            rows.append([])
    return word, tuple(map(tuple, rows))


def question_look(world, text):
    return question_from(world, split(text), 0)


def forest_from(world, row, at):
    rooms = rooms_in(world)
    met, path, last = {}, [], None
    for word, place in row[at:]:
        # last is the thing that was named right ahead of this word.
        if last is not None:
            if (word == "[") != (rooms[last] > 0):
                raise Wrong(errors.NoRoom, place)
            if word == "[":
                path.append((last, 0))
                last = None
                continue
        last = None
        if word == "":
            break
        if word in ("|", "]") and path:
            holder, room = path.pop()
            if (word == "]") != (room + 1 == rooms[holder]):
                raise Wrong(errors.NoRoom, place)
            if word == "|":
                path.append((holder, room + 1))
            continue
        last = thing(world, word, place)
        if last in met:
            raise Wrong(errors.Twice, place)
        met[last] = path[-1] if path else None
    if path:
        bad(row[-1][1])
    for x in range(len(rooms)):
        if x not in met:
            raise Wrong(errors.Missing, x)
    return tuple(met[x] for x in range(len(rooms)))


def forest_look(world, text):
    return forest_from(world, split(text), 0)


def paper_from(world, row, at, ends):
    """The paper that stands from there on, and where its end stands."""
    rooms = rooms_in(world)
    lot, notes, state, t = [], {}, "barred", None
    while True:
        word, place = row[at]
        if state == "bars" and named(word) != (len(notes[t][1]) < rooms[t]):
            raise Wrong(errors.NoRoom, place)
        if state == "barred":
            if word != "barred":
                bad(place)
            state = "lot"
        elif state in ("lot", "part") and (state, word) != ("part", "}"):
            x = thing(world, word, place)
            told = lot if state == "lot" else notes[t][0]
            if x in told:
                raise Wrong(errors.Twice, place)
            told.append(x)
            state = {"lot": "comma", "part": "part"}[state]
        elif state == "comma":
            state = {",": "lot", ":": "note"}.get(word) or bad(place)
        elif state == "note":
            t = thing(world, word, place)
            if t not in lot:
                bad(place)
            if t in notes:
                raise Wrong(errors.Twice, place)
            notes[t] = ([], [])
            state = "brace"
        elif state == "brace":
            state = "part" if word == "{" else bad(place)
        elif state == "part":
            state = "bars"
        elif named(word):
            notes[t][1].append(thing(world, word, place))
        elif word == ";":
            state = "note"
        elif word in ends:
            break
        else:
            bad(place)
        at += 1
    for x in sorted(lot):
        if x not in notes:
            raise Wrong(errors.Missing, x)
    return (tuple(sorted(lot)), tuple((tuple(sorted(notes[x][0])), tuple(notes[x][1])) for x in sorted(lot))), at


def paper_look(world, text):
    return paper_from(world, split(text), 0, ("",))[0]


def answer_look(world, text):
    row = split(text)
    told, place = row[0]
    if told not in ("yes", "no"):
        bad(place)
    word, place = row[1]
    if re.fullmatch("[0-7]", word):
        if row[2][0] != ":":
            bad(row[2][1])
        return told, int(word), forest_from(world, row, 3)
    if word != ":":
        bad(place)
    papers, at = [], 1
    while row[at][0]:
        paper, at = paper_from(world, row, at + 1, ("", "&") if len(papers) < 7 else ("",))
        papers.append(paper)
    return told, tuple(papers)


def entry_look(world, text, taken=()):
    row = split(text)
    hand = fresh(*row[0], ())
    name = fresh(*row[1], [other for one, other in taken if one == hand])
    if row[2][0] != ":":
        bad(row[2][1])
    return hand, name, saying_from(world, row, 3, ("",))[0]


def desk_row_look(world, text):
    """What a row of the desk asks: its hand, its word, the places of both words behind the colon, what it tells."""
    row = split(text)
    hand = fresh(*row[0], ())
    if row[1][0] != ":":
        bad(row[1][1])
    word, place = row[2]
    at, told = 3, ()
    if word in ("thing", "say", "back"):
        told = (fresh(*row[3], ()),)
        at = 4
    if word == "thing":
        doors = []
        while row[at][0] and len(doors) < 4:
            doors.append(fresh(*row[at], doors))
            at += 1
        told += (tuple(doors),)
    elif word == "say":
        saying, at = saying_from(world, row, 4, ("",))
        told += (saying,)
    elif word in ("sure", "may"):
        return hand, word, place, None, (question_from(world, row, 2),)
    elif word == "where":
        x, y = thing(world, *row[3]), thing(world, *row[4])
        if x == y:
            raise Wrong(errors.SameThing, row[4][1])
        told, at = (x, y), 5
    elif word not in ("back", "undo", "redo", "whose", "form", "book"):
        bad(place)
    if row[at][0]:
        bad(row[at][1])
    return hand, word, place, row[3][1], told


def in_words(text):
    """The words of a text, as many as can be seen."""
    return WORD.findall(text)


def mutants(text, more):
    """The text cut at each word, and with each word left out, told twice, or with a wrong one ahead or in its place."""
    row = in_words(text)
    vocabulary = sorted(set(WORDS) | set(more))
    for at in range(len(row) + 1):
        yield " ".join(row[:at])
        yield " ".join(row[:at] + row[at + 1:])
        yield " ".join(row[:at] + row[at:at + 1] + row[at:])
        for word in vocabulary:
            yield " ".join(row[:at] + [word] + row[at + 1:])
            yield " ".join(row[:at] + [word] + row[at:])
