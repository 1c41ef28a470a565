"""What the tests share: their own look at forests, sayings and books, by plain going through."""

import itertools
import random
import signal
import unittest

from nestsay import errors

APART = ("apart", 0)


def nested(depth, core=()):
    """A tuple in a tuple, and so on."""
    for _ in range(depth):
        core = (core,)
    return core


def of_parts(many):
    """A tuple of many parts of its own kinds."""
    return tuple((None, True, "a", 1, ())[at % 5] for at in range(many))


# Values of every kind that a judge may be handed.
ODD = (
    None, True, False, -1, 0, 1, 2, 3, 5, 10 ** 900, -10 ** 900,
    "", "in", "apart", "floor", "0",
    (), (None,), (0,), (1,), (True,), (-1,), (0, 0), (0, 1), (1, 0), (1, 1), (2, 0), (True, 0), (0, False),
    (0, 0, 0), (None, None), ("in", 0), ("in", 1), ("in", True), ("around", 0), ("around", False),
    ("apart", 0), ("apart", 1), ("apart", False), ("apart",), ("in", 0, 0), ("apart", None), ("beside", 0),
    ((),), ((), ()), ((0, 0),), (("in", 0),), (("apart", 0), ("in", 0)), ((0, (0,)),),
    (0, 1, ()), (0, 1, (("in", 0),)), nested(49), nested(40, (0, 1)), of_parts(9000),
)


def changed(value, odd=ODD):
    """The value with each of its parts, itself too, put as each odd value, left out, or told twice."""
    yield from odd
    if isinstance(value, tuple):
        for at in range(len(value)):
            yield value[:at] + value[at + 1:]
            yield value[:at] + (value[at],) + value[at:]
            for part in changed(value[at], odd):
                yield value[:at] + (part,) + value[at + 1:]


def is_number(thing):
    return type(thing) is int


def rooms_fault(thing):
    """The error, and its what, that made_rooms has to raise; None if it has to return."""
    if type(thing) is not tuple:
        return errors.BadRooms, -1
    if len(thing) > 24:
        return errors.TooMany, len(thing)
    for x, many in enumerate(thing):
        if not is_number(many) or many < 0 or many > 4:
            return errors.BadRooms, x
    return None


def is_place(rooms, x, place):
    if place is None:
        return True
    if type(place) is not tuple or len(place) != 2:
        return False
    holder, room = place
    if not is_number(holder) or not is_number(room):
        return False
    return 0 <= holder < len(rooms) and holder != x and 0 <= room < rooms[holder]


def climb(forest, x):
    """The places that lead from x outward; None if that never ends."""
    way = []
    while forest[x] is not None:
        way.append(forest[x])
        if len(way) > len(forest):
            return None
        x = forest[x][0]
    return way


def forest_fault(rooms, forest):
    """The same of made_forest."""
    if rooms_fault(rooms):
        return rooms_fault(rooms)
    if type(forest) is not tuple or len(forest) != len(rooms):
        return errors.BadForest, -1
    for x, place in enumerate(forest):
        if not is_place(rooms, x, place):
            return errors.BadForest, x
    for x in range(len(forest)):
        met, at = [], x
        while forest[at] is not None and forest[at][0] not in met:
            at = forest[at][0]
            met.append(at)
        if x in met:
            return errors.Ring, x
    return None


def saying_fault(rooms, saying):
    """The same of contrary."""
    if rooms_fault(rooms):
        return rooms_fault(rooms)
    bad = errors.BadSaying, 0
    if type(saying) is not tuple or len(saying) != 3:
        return bad
    x, y, lets = saying
    if not is_number(x) or not is_number(y) or type(lets) is not tuple:
        return bad
    if not 0 <= x < len(rooms) or not 0 <= y < len(rooms) or x == y:
        return bad
    for each in lets:
        if type(each) is not tuple or len(each) != 2 or not is_number(each[1]):
            return bad
    return None if lets in subsets(all_standings(rooms, x, y)) else bad


def book_fault(thing):
    """The same of made_book."""
    if type(thing) is not tuple or len(thing) != 2:
        return errors.BadBook, -1
    rooms, sayings = thing
    if rooms_fault(rooms):
        return rooms_fault(rooms)
    if type(sayings) is not tuple:
        return errors.BadBook, -1
    if len(sayings) > 400:
        return errors.TooMany, len(sayings)
    for index, saying in enumerate(sayings):
        if saying_fault(rooms, saying):
            return errors.BadSaying, index
    return None


def is_lot(rooms, lot):
    if type(lot) is not tuple or not all(is_number(x) and 0 <= x < len(rooms) for x in lot):
        return False
    return list(lot) == sorted(set(lot))


def subsets(row):
    """All tuples of things of a row, each once, in the order of the row."""
    return [some for many in range(len(row) + 1) for some in itertools.combinations(row, many)]


def all_standings(rooms, x, y):
    return ([APART] + [("in", j) for j in range(rooms[y])] + [("around", i) for i in range(rooms[x])])


def all_forests(rooms):
    """Every forest of the rooms."""
    places = [[None] + [(y, r) for y in range(len(rooms)) if y != x for r in range(rooms[y])]
              for x in range(len(rooms))]
    return [forest for forest in itertools.product(*places)
            if all(climb(forest, x) is not None for x in range(len(rooms)))]


def stands(forest, x, y):
    """The standing of x to y."""
    for holder, room in climb(forest, x):
        if holder == y:
            return "in", room
    for holder, room in climb(forest, y):
        if holder == x:
            return "around", room
    return APART


def swapped(standing):
    return {"in": "around", "around": "in", "apart": "apart"}[standing[0]], standing[1]


class Ended(Exception):
    """The walk met a part that has no free thing."""


class Look:
    """A slow look at a book, word by word as the document tells it."""

    def __init__(self, book):
        self.rooms, self.sayings = book
        self.things = tuple(range(len(self.rooms)))
        self.lets = {(x, y): self.read_let(x, y) for x in self.things for y in self.things if x != y}

    def read_let(self, x, y):
        found = all_standings(self.rooms, x, y)
        for one, other, lets in self.sayings:
            if one == x and other == y:
                found = [each for each in found if each in lets]
            elif one == y and other == x:
                found = [each for each in found if swapped(each) in lets]
        return tuple(found)

    def broken(self, forest):
        for index, (x, y, lets) in enumerate(self.sayings):
            if stands(forest, x, y) not in lets:
                return index
        return None

    def linked(self, x, y):
        return APART not in self.lets[x, y]

    def parts(self, lot):
        found = []
        for x in lot:
            near = [part for part in found if any(self.linked(x, y) for y in part)]
            found = [part for part in found if part not in near] + [tuple(sorted(sum(near, (x,))))]
        return tuple(sorted(found))

    def over(self, t, part):
        return tuple(i for i in range(self.rooms[t]) if all(("around", i) in self.lets[t, c] for c in part))

    def free(self, lot):
        return tuple(t for t in lot if all(self.over(t, part) for part in self.parts(less(lot, t))))

    def walk(self, order):
        """The forest, or the part that ended the walk, beside None."""
        forest = [None] * len(self.rooms)
        try:
            self.lay(forest, self.things, None, order)
        except Ended as why:
            return None, why.args[0]
        return tuple(forest), None

    def lay(self, forest, lot, holder, order):
        for part in self.parts(lot):
            found = self.free(part)
            if not found:
                raise Ended(part)
            t = min(found, key=order.index)
            if holder is not None:
                forest[t] = holder, self.over(holder, part)[0]
            self.lay(forest, less(part, t), t, order)

    def paper(self):
        lot = self.walk(self.things)[1]
        if lot is None:
            return None
        notes = []
        for t in lot:
            part = [part for part in self.parts(less(lot, t)) if not self.over(t, part)][0]
            notes.append((part, tuple(min(c for c in part if ("around", i) not in self.lets[t, c])
                                      for i in range(self.rooms[t]))))
        return lot, tuple(notes)

    def one_part(self, lot):
        return is_lot(self.rooms, lot) and self.parts(lot) == (lot,)

    def no_right(self, paper):
        if type(paper) is not tuple or len(paper) != 2:
            return False
        lot, notes = paper
        if not self.one_part(lot) or type(notes) is not tuple or len(notes) != len(lot):
            return False
        return all(self.note_right(less(lot, t), t, note) for t, note in zip(lot, notes))

    def note_right(self, rest, t, note):
        if type(note) is not tuple or len(note) != 2:
            return False
        part, bars = note
        if not self.one_part(part) or not set(part) <= set(rest):
            return False
        if type(bars) is not tuple or len(bars) != self.rooms[t]:
            return False
        return all(is_number(z) and z in part and ("around", i) not in self.lets[t, z] for i, z in enumerate(bars))

    def forms(self, forests):
        return [forest for forest in forests if self.broken(forest) is None]

    def under(self, forest, x):
        """The lot of x and all that lies in it, however deep."""
        return tuple(y for y in self.things if y == x or x in [holder for holder, _ in climb(forest, y)])

    def least(self, forest):
        return self.broken(forest) is None and all(self.one_part(self.under(forest, x)) for x in self.things)

    def in_order(self, forest, lot=None):
        """What least forms are ordered by."""
        row = []
        for part in self.parts(self.things if lot is None else lot):
            t = [x for x in part if forest[x] is None or forest[x][0] not in part][0]
            row.append((0 if forest[t] is None else forest[t][1], t, self.in_order(forest, less(part, t))))
        return row

    def least_forms(self, forests):
        """All least forms in their order."""
        return sorted((forest for forest in forests if self.least(forest)), key=self.in_order)

    def mend(self, forest):
        """What mended has to tell of a book that can be kept."""
        target = [None] * len(self.rooms)
        self.mend_lot(forest, target, self.things, None)
        return tuple(target)

    def mend_lot(self, forest, target, lot, holder):
        for part in self.parts(lot):
            t = min(self.free(part), key=lambda x: (len(climb(forest, x)), x))
            if holder is not None:
                rooms = self.over(holder, part)
                kind, room = stands(forest, part[0], holder)
                target[t] = holder, room if kind == "in" and room in rooms else rooms[0]
            self.mend_lot(forest, target, less(part, t), t)


def less(lot, t):
    return tuple(x for x in lot if x != t)


def all_books(rooms):
    """Each book that has one saying of each two things, the lesser one first."""
    pairs = list(itertools.combinations(range(len(rooms)), 2))
    rows = [[(x, y, lets) for lets in subsets(all_standings(rooms, x, y))] for x, y in pairs]
    return [(rooms, sayings) for sayings in itertools.product(*rows)]


def some_books(rooms, many, seed):
    """Books with several sayings, in either order, of few standings or many."""
    dice = random.Random(seed)
    for _ in range(many):
        sayings = []
        for _ in range(dice.randrange(2 * len(rooms) + 1)):
            x, y = dice.sample(range(len(rooms)), 2)
            lost = dice.choice((0.2, 0.4, 0.6))
            sayings.append((x, y, tuple(each for each in all_standings(rooms, x, y)
                                        if dice.random() > (0.8 if each == APART else lost))))
        yield rooms, tuple(sayings)


def lies_within(one, two):
    """Whether what lies in a room in the first forest lies in that room in the second."""
    return all(place in climb(two, x) for x in range(len(one)) for place in climb(one, x))


def either(x, y, rooms):
    """The saying that x and y are one in the other."""
    return x, y, tuple(all_standings(rooms, x, y)[1:])


class Case(unittest.TestCase):
    """A test case that can ask for an error and its what."""

    def refused(self, error, what, function, *told, **named):
        with self.assertRaises(errors.Refused) as caught:
            function(*told, **named)
        self.assertIs(type(caught.exception), error, (function.__name__, told, named))
        self.assertEqual(caught.exception.what, what)
        self.assertIs(type(caught.exception.what), type(what))

    def as_told(self, fault, function, *told):
        """The function raises the fault, or returns where there is none."""
        if fault:
            self.refused(fault[0], fault[1], function, *told)
        else:
            function(*told)

    def asks_rooms(self, function, *rest):
        """The function raises (rooms), whatever stands behind the rooms."""
        self.refused(errors.BadRooms, -1, function, None, *rest)
        self.refused(errors.BadRooms, -1, function, "12", *rest)
        self.refused(errors.TooMany, 25, function, (1,) * 24 + (9,), *rest)
        self.refused(errors.BadRooms, 1, function, (1, 5, -1), *rest)
        self.refused(errors.BadRooms, 2, function, (1, 4, True), *rest)

    def asks_forest(self, function, *rest):
        """The function raises (forest), whatever stands behind the forest."""
        self.refused(errors.BadForest, -1, function, (1, 1), None, *rest)
        self.refused(errors.BadForest, -1, function, (1, 1), (None,), *rest)
        self.refused(errors.BadForest, 1, function, (1, 1), (None, (0, 1)), *rest)
        self.refused(errors.BadForest, 0, function, (1, 1), ((True, 0), 3), *rest)
        self.refused(errors.Ring, 1, function, (1, 1, 1), (None, (2, 0), (1, 0)), *rest)

    def asks_book(self, function, *rest):
        """The function raises (book), whatever stands behind the book."""
        for book in (None, 3, "", "ab", (), ((1,),), ((1,), (), ())):
            self.refused(errors.BadBook, -1, function, book, *rest)
        self.refused(errors.BadBook, -1, function, ((1, 1), None), *rest)
        self.refused(errors.BadBook, -1, function, ((1, 1), "in"), *rest)
        self.asks_rooms(lambda rooms: function((rooms, None), *rest))
        self.asks_rooms(lambda rooms: function((rooms, (7,)), *rest))
        self.refused(errors.TooMany, 401, function, ((1, 1), ((0, 1, ()),) * 400 + (None,)), *rest)
        self.refused(errors.BadSaying, 0, function, ((1, 1), (None, None)), *rest)
        self.refused(errors.BadSaying, 1, function, ((1, 1), ((0, 1, ()), (0, 2, ()), 3)), *rest)
        self.refused(errors.BadSaying, 0, function, ((1, 1), ((0, 1, (("in", False),)),)), *rest)

    def asks_forest_of_book(self, function, *rest):
        """The function raises (forest) with the book's rooms, whatever stands behind the forest."""
        self.asks_forest(lambda rooms, *told: function((rooms, ()), *told), *rest)

    def asks_things(self, function, book, *rest):
        """The function raises (thing) for two unlike things behind a book of three."""
        for x in (-1, 3, 10 ** 900, None, "0", (0,), ()):
            self.refused(errors.BadThing, x, function, book, x, None, *rest)
            self.refused(errors.BadThing, x, function, book, 1, x, *rest)
        for x in range(3):
            self.refused(errors.BadThing, x, function, book, x, x, *rest)

    def asks_clause(self, function, book):
        """The function raises (clause) behind a book of two things or more with rooms."""
        for clause in (None, 3, "", "ab", True):
            self.refused(errors.BadClause, -1, function, book, clause)
        self.refused(errors.TooMany, 41, function, book, ((0, 1, ()),) * 41)
        self.refused(errors.TooMany, 41, function, book, (None,) * 41)
        self.refused(errors.BadSaying, 39, function, book, ((0, 1, ()),) * 39 + (None,))
        self.refused(errors.BadSaying, 0, function, book, (None, 3))
        self.refused(errors.BadSaying, 1, function, book, ((0, 1, ()), (0, 0, ()), 3))
        self.refused(errors.BadSaying, 2, function, book, ((0, 1, ()), (1, 0, ()), (0, len(book[0]), ())))
        self.refused(errors.BadSaying, 0, function, book, ((0, 1, (("in", False),)),))
        self.refused(errors.BadSaying, 0, function, book, ((0, 1, (("in", 0), APART)),))
        self.refused(errors.BadSaying, 0, function, book, (0, 1, ()))

    def asks_world(self, function, *rest):
        """The function raises (world), whatever stands behind the world."""
        for world in (None, 3, "", "ab", (), ((),), ((), (), ()), ((), None), (("a",), ()), ("a", ((),)), (None, None)):
            self.refused(errors.BadWorld, -1, function, world, *rest)
        self.refused(errors.TooMany, 25, function, ((None,) * 25, (None,) * 25), *rest)
        for name in (None, 3, "", "A", "1a", "a-b", "in", "barred", "abcdefghijklm", ("a",)):
            self.refused(errors.BadWorld, 0, function, ((name, None), ((), ())), *rest)
        self.refused(errors.BadWorld, 2, function, (("a", "b", "a", 3), ((), ("a", "b"), (), ())), *rest)
        for doors in (None, "r", ("r", "r"), ("r", 3), ("in",), ("a", "b", "c", "d", "e")):
            self.refused(errors.BadWorld, 1, function, (("a", "b", "b"), ((), doors, ())), *rest)

    def asks_text(self, function, *ahead):
        """The function raises (text) behind what stands ahead of the text, also where the text begins wrongly."""
        for text in (None, 3, True, (), ("a",), b"a"):
            self.refused(errors.BadText, -1, function, *ahead, text)
        for code in (0, 9, 10, 13, 31, 37, 127, 128, 160, 255, 0x3b1, 0x1f600):
            self.refused(errors.BadText, 0, function, *ahead, chr(code))
            self.refused(errors.BadText, 7, function, *ahead, ")zz ,, " + chr(code) + "\n")
        self.refused(errors.BadText, 20000, function, *ahead, ")" * 20001)
        self.refused(errors.BadText, 20000, function, *ahead, " " * 30000 + "\n")
        self.refused(errors.BadText, 19999, function, *ahead, " " * 19999 + "\n" * 9)

    def as_read(self, look, function, *told):
        """The function does what the tests' own look at its arguments does."""
        try:
            found = look(*told)
        except Exception as why:
            if not hasattr(why, "fault"):
                raise
            self.refused(why.fault[0], why.fault[1], function, *told)
            return
        self.assertEqual(function(*told), found, told)

    def quickly(self, seconds=20):
        """What stands in this block fails if it takes longer."""
        return _Quickly(self, seconds)


class _Quickly:

    def __init__(self, case, seconds):
        self.case = case
        self.seconds = seconds

    def __enter__(self):
        signal.signal(signal.SIGALRM, self.late)
        signal.alarm(self.seconds)

    def __exit__(self, *told):
        signal.alarm(0)

    def late(self, *told):
        self.case.fail("no answer within {} seconds".format(self.seconds))


NAMES = "a b c yes no r s1 abcdefghijkl z9 k l m n o p q t u v w x y z d e f g h i j r0 s0".split()


def world_of(rooms):
    """A world whose things have these rooms; names of rooms are names of things too."""
    return tuple(NAMES[:len(rooms)]), tuple(tuple(NAMES[x + 2:x + 2 + many]) for x, many in enumerate(rooms))


def all_sayings(rooms):
    """Every saying about things with these rooms."""
    return [(x, y, lets) for x, y in itertools.permutations(range(len(rooms)), 2)
            for lets in subsets(all_standings(rooms, x, y))]
