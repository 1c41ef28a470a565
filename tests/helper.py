"""What the tests share: their own look at forests, sayings and books, by plain going through."""

import itertools
import unittest

from nestsay import errors

FLOOR = None
APART = ("apart", 0)


def nested(depth, core=()):
    """A tuple in a tuple, and so on."""
    for _ in range(depth):
        core = (core,)
    return core


def of_parts(many):
    """A tuple of many parts of its own kinds."""
    return tuple((None, True, "a", 1, ())[at % 5] for at in range(many))


# Values of every kind that a judge may be handed.
ODD = (
    None, True, False, -1, 0, 1, 2, 3, 5, 10 ** 900, -10 ** 900,
    "", "in", "apart", "floor", "0",
    (), (None,), (0,), (1,), (True,), (-1,), (0, 0), (0, 1), (1, 0), (1, 1), (2, 0), (True, 0), (0, False),
    (0, 0, 0), (None, None), ("in", 0), ("in", 1), ("in", True), ("around", 0), ("around", False),
    ("apart", 0), ("apart", 1), ("apart", False), ("apart",), ("in", 0, 0), ("apart", None), ("beside", 0),
    ((),), ((), ()), ((0, 0),), (("in", 0),), (("apart", 0), ("in", 0)), ((0, (0,)),),
    (0, 1, ()), (0, 1, (("in", 0),)), nested(49), nested(40, (0, 1)), of_parts(9000),
)


def changed(value, odd=ODD):
    """The value with each of its parts, itself too, put as each odd value, left out, or told twice."""
    yield from odd
    if isinstance(value, tuple):
        for at in range(len(value)):
            yield value[:at] + value[at + 1:]
            yield value[:at] + (value[at],) + value[at:]
            for part in changed(value[at], odd):
                yield value[:at] + (part,) + value[at + 1:]


def is_number(thing):
    return type(thing) is int


def rooms_fault(thing):
    """The error, and its what, that made_rooms has to raise; None if it has to return."""
    if type(thing) is not tuple:
        return errors.BadRooms, -1
    if len(thing) > 24:
        return errors.TooMany, len(thing)
    for x, many in enumerate(thing):
        if not is_number(many) or many < 0 or many > 4:
            return errors.BadRooms, x
    return None


def is_place(rooms, x, place):
    if place is None:
        return True
    if type(place) is not tuple or len(place) != 2:
        return False
    holder, room = place
    if not is_number(holder) or not is_number(room):
        return False
    return 0 <= holder < len(rooms) and holder != x and 0 <= room < rooms[holder]


def climb(forest, x):
    """The places that lead from x outward; None if that never ends."""
    way = []
    while forest[x] is not None:
        way.append(forest[x])
        if len(way) > len(forest):
            return None
        x = forest[x][0]
    return way


def forest_fault(rooms, forest):
    """The same of made_forest."""
    if rooms_fault(rooms):
        return rooms_fault(rooms)
    if type(forest) is not tuple or len(forest) != len(rooms):
        return errors.BadForest, -1
    for x, place in enumerate(forest):
        if not is_place(rooms, x, place):
            return errors.BadForest, x
    for x in range(len(forest)):
        met, at = [], x
        while forest[at] is not None and forest[at][0] not in met:
            at = forest[at][0]
            met.append(at)
        if x in met:
            return errors.Ring, x
    return None


def saying_fault(rooms, saying):
    """The same of contrary."""
    if rooms_fault(rooms):
        return rooms_fault(rooms)
    bad = errors.BadSaying, 0
    if type(saying) is not tuple or len(saying) != 3:
        return bad
    x, y, lets = saying
    if not is_number(x) or not is_number(y) or type(lets) is not tuple:
        return bad
    if not 0 <= x < len(rooms) or not 0 <= y < len(rooms) or x == y:
        return bad
    for each in lets:
        if type(each) is not tuple or len(each) != 2 or not is_number(each[1]):
            return bad
    return None if lets in subsets(all_standings(rooms, x, y)) else bad


def book_fault(thing):
    """The same of made_book."""
    if type(thing) is not tuple or len(thing) != 2:
        return errors.BadBook, -1
    rooms, sayings = thing
    if rooms_fault(rooms):
        return rooms_fault(rooms)
    if type(sayings) is not tuple:
        return errors.BadBook, -1
    if len(sayings) > 400:
        return errors.TooMany, len(sayings)
    for index, saying in enumerate(sayings):
        if saying_fault(rooms, saying):
            return errors.BadSaying, index
    return None


def is_lot(rooms, lot):
    if type(lot) is not tuple or not all(is_number(x) and 0 <= x < len(rooms) for x in lot):
        return False
    return list(lot) == sorted(set(lot))


def subsets(row):
    """All tuples of things of a row, each once, in the order of the row."""
    return [some for many in range(len(row) + 1) for some in itertools.combinations(row, many)]


def all_standings(rooms, x, y):
    return ([APART] + [("in", j) for j in range(rooms[y])] + [("around", i) for i in range(rooms[x])])


def all_forests(rooms):
    """Every forest of the rooms."""
    places = [[None] + [(y, r) for y in range(len(rooms)) if y != x for r in range(rooms[y])]
              for x in range(len(rooms))]
    return [forest for forest in itertools.product(*places)
            if all(climb(forest, x) is not None for x in range(len(rooms)))]


def stands(forest, x, y):
    """The standing of x to y."""
    for holder, room in climb(forest, x):
        if holder == y:
            return "in", room
    for holder, room in climb(forest, y):
        if holder == x:
            return "around", room
    return APART


def swapped(standing):
    return {"in": "around", "around": "in", "apart": "apart"}[standing[0]], standing[1]


class Case(unittest.TestCase):
    """A test case that can ask for an error and its what."""

    def refused(self, error, what, function, *told, **named):
        with self.assertRaises(errors.Refused) as caught:
            function(*told, **named)
        self.assertIs(type(caught.exception), error, (function.__name__, told, named))
        self.assertEqual(caught.exception.what, what)
        self.assertIs(type(caught.exception.what), type(what))

    def as_told(self, fault, function, *told):
        """The function raises the fault, or returns where there is none."""
        if fault:
            self.refused(fault[0], fault[1], function, *told)
        else:
            function(*told)

    def asks_rooms(self, function, *rest):
        """The function raises (rooms), whatever stands behind the rooms."""
        self.refused(errors.BadRooms, -1, function, None, *rest)
        self.refused(errors.BadRooms, -1, function, "12", *rest)
        self.refused(errors.TooMany, 25, function, (1,) * 24 + (9,), *rest)
        self.refused(errors.BadRooms, 1, function, (1, 5, -1), *rest)
        self.refused(errors.BadRooms, 2, function, (1, 4, True), *rest)

    def asks_forest(self, function, *rest):
        """The function raises (forest), whatever stands behind the forest."""
        self.refused(errors.BadForest, -1, function, (1, 1), None, *rest)
        self.refused(errors.BadForest, -1, function, (1, 1), (None,), *rest)
        self.refused(errors.BadForest, 1, function, (1, 1), (None, (0, 1)), *rest)
        self.refused(errors.BadForest, 0, function, (1, 1), ((True, 0), 3), *rest)
        self.refused(errors.Ring, 1, function, (1, 1, 1), (None, (2, 0), (1, 0)), *rest)
