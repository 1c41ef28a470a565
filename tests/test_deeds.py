import itertools

from helper import APART, Case, Look, all_books, all_forests, climb, either, less, some_books, stands
from nestsay.deeds import after, deeds, hangs
from nestsay.errors import BadBook, BadDeed, BadForest, BadRoom, BadThing, NotFree, NotLeast, OnFloor
from nestsay.forests import hung
from nestsay.leastforms import least_right

ROOMS = (1, 1, 1)
ALL = (ROOMS, (either(0, 1, ROOMS), either(0, 2, ROOMS), either(1, 2, ROOMS)))
PATH = (ROOMS, (either(0, 1, ROOMS), either(1, 2, ROOMS)))
CHAIN = (None, (0, 0), (1, 0))
BARRED = (ROOMS, ((0, 1, ()),))
WRONG_DEEDS = (None, 3, "turn", (), ("turn", 1), ("turn", 1, 0, 0), ("lift", 1, 0), ("Turn", 1, 0), (1, "turn", 0),
               ("turn", None, 0), ("turn", "1", 0), ("turn", 1, None), ("shift", 1, "0"), ("shift", (1,), 0),
               (None, 1, 0), (("turn",), 1, 0), ("", 1, 0))


def turn_part(look, forest, x):
    """What hangs together with the holder of x in its lot less x."""
    t = forest[x][0]
    return [part for part in look.parts(less(look.under(forest, t), x)) if t in part][0]


def deed_fault(look, forest, deed):
    """The error, and its what, of a deed in a least form, None if it is granted."""
    kind, x, j = deed
    if x not in look.things:
        return BadThing, x
    if forest[x] is None:
        return OnFloor, x
    t, room = forest[x]
    if kind == "turn":
        if x not in look.free(look.under(forest, t)):
            return NotFree, x
        rooms = look.over(x, turn_part(look, forest, x))
    else:
        rooms = less(look.over(t, look.under(forest, x)), room)
    return None if j in rooms else (BadRoom, j)


def every_deed(look):
    """All deeds that could be granted, and some others, in their order."""
    return [(kind, x, j) for kind in ("turn", "shift") for x in range(-1, len(look.rooms) + 1) for j in range(-1, 5)]


def turned_out(look, forest, x, j):
    """The forest behind a turn, whether it is granted or not."""
    t, room = forest[x]
    part = turn_part(look, forest, x)
    target = list(forest)
    for z in look.things:
        if forest[z] is not None and forest[z][0] == x and z in part:
            target[z] = t, room
    target[x], target[t] = forest[t], (x, j)
    return tuple(target)


class Examples(Case):

    def test_turns(self):
        self.assertEqual(hangs(ALL, CHAIN, ("turn", 1, 0)), ((1, None), (0, (1, 0)), (2, (0, 0))))
        self.assertEqual(after(ALL, CHAIN, ("turn", 1, 0)), ((1, 0), None, (0, 0)))
        self.assertEqual(hangs(PATH, CHAIN, ("turn", 1, 0)), ((1, None), (0, (1, 0))))
        self.assertEqual(after(PATH, CHAIN, ("turn", 1, 0)), ((1, 0), None, (1, 0)))
        self.assertEqual(hangs(deed=("turn", 1, 0), forest=CHAIN, book=PATH), ((1, None), (0, (1, 0))))
        self.assertEqual(after(deed=("turn", 1, 0), forest=CHAIN, book=PATH), ((1, 0), None, (1, 0)))

    def test_a_turn_below(self):
        self.assertEqual(hangs(ALL, CHAIN, ("turn", 2, 0)), ((2, (0, 0)), (1, (2, 0))))
        self.assertEqual(after(ALL, CHAIN, ("turn", 2, 0)), (None, (2, 0), (0, 0)))

    def test_what_goes_to_the_holder_ascends(self):
        rooms = (2, 2, 0, 0, 0)
        book = (rooms, (either(0, 1, rooms),) + tuple(either(x, y, rooms) for x in (0, 1) for y in (2, 3, 4)))
        forest = (None, (0, 1), (1, 0), (1, 1), (1, 0))
        self.assertEqual(hangs(book, forest, ("turn", 1, 1)),
                         ((1, None), (0, (1, 1)), (2, (0, 1)), (3, (0, 1)), (4, (0, 1))))

    def test_shifts(self):
        rooms = (3, 0)
        book = (rooms, ((0, 1, (("around", 0), ("around", 2))),))
        self.assertEqual(hangs(book, (None, (0, 0)), ("shift", 1, 2)), ((1, (0, 2)),))
        self.assertEqual(after(book, (None, (0, 0)), ("shift", 1, 2)), (None, (0, 2)))
        self.assertEqual(deeds(book, (None, (0, 0))), (("shift", 1, 2),))
        self.refused(BadRoom, 0, hangs, book, (None, (0, 0)), ("shift", 1, 0))
        self.refused(BadRoom, 1, hangs, book, (None, (0, 0)), ("shift", 1, 1))
        self.refused(BadRoom, 3, hangs, book, (None, (0, 0)), ("shift", 1, 3))
        self.refused(BadRoom, -1, hangs, book, (None, (0, 0)), ("shift", 1, -1))

    def test_all_deeds(self):
        self.assertEqual(deeds(ALL, CHAIN), (("turn", 1, 0), ("turn", 2, 0)))
        self.assertEqual(deeds(forest=CHAIN, book=PATH), (("turn", 1, 0), ("turn", 2, 0)))
        self.assertEqual(deeds(PATH, ((1, 0), None, (1, 0))), (("turn", 0, 0), ("turn", 2, 0)))
        rooms = (2, 2, 1)
        book = (rooms, (either(0, 1, rooms), either(0, 2, rooms), either(1, 2, rooms)))
        self.assertEqual(deeds(book, CHAIN), (("turn", 1, 0), ("turn", 1, 1), ("turn", 2, 0),
                                              ("shift", 1, 1), ("shift", 2, 1)))

    def test_no_deeds(self):
        for book, forest in ((((), ()), ()), (((4,), ()), (None,)), ((ROOMS, ()), (None,) * 3),
                             (((1, 0), (either(0, 1, (1, 0)),)), (None, (0, 0)))):
            self.assertEqual(deeds(book, forest), ())


class Refusals(Case):

    def test_each_kind_of_refusal(self):
        rooms = (2, 1, 0, 1)
        book = (rooms, (either(0, 1, rooms), either(1, 2, rooms), (0, 2, (("around", 0),)),
                        (1, 3, (("in", 0),)), (0, 3, (APART, ("in", 0), ("around", 0), ("around", 1)))))
        forest = ((3, 0), (0, 0), (1, 0), None)
        self.assertIs(least_right(book, forest), True)
        for function in (hangs, after):
            for kind in ("turn", "shift"):
                self.refused(BadThing, 4, function, book, forest, (kind, 4, 0))
                self.refused(BadThing, -1, function, book, forest, (kind, -1, 9))
                self.refused(OnFloor, 3, function, book, forest, (kind, 3, 0))
                self.refused(OnFloor, 3, function, book, forest, (kind, 3, 9))
            self.refused(NotFree, 2, function, book, forest, ("turn", 2, 0))
            self.refused(NotFree, 2, function, book, forest, ("turn", 2, 10 ** 900))
            self.refused(BadRoom, 1, function, book, forest, ("turn", 1, 1))
            self.refused(BadRoom, -1, function, book, forest, ("turn", 1, -1))
            self.refused(BadRoom, 1, function, book, forest, ("shift", 2, 1))
            self.refused(BadRoom, 0, function, book, forest, ("shift", 2, 0))
            self.refused(BadRoom, 0, function, book, forest, ("shift", 1, 0))
            self.refused(BadRoom, 1, function, book, forest, ("shift", 1, 1))

    def test_wrong_deeds(self):
        for function in (hangs, after):
            for deed in WRONG_DEEDS:
                self.refused(BadDeed, deed, function, ALL, CHAIN, deed)
                self.refused(NotLeast, 0, function, ALL, (None, None, None), deed)

    def test_forms_that_are_not_least(self):
        for function, rest in ((hangs, (None,)), (after, (None,)), (deeds, ())):
            self.refused(NotLeast, 0, function, PATH, (None, (0, 0), (0, 0)), *rest)
            self.refused(NotLeast, 0, function, (ROOMS, ()), CHAIN, *rest)
            self.refused(NotLeast, 0, function, BARRED, (None, None, None), *rest)
            self.refused(BadForest, 2, function, BARRED, (None, None, (2, 0)), *rest)
            self.refused(BadBook, -1, function, (ROOMS, None), None, *rest)

    def test_order_of_errors(self):
        for function, rest in ((hangs, (None,)), (after, (None,)), (deeds, ())):
            self.asks_book(function, None, *rest)
            self.asks_forest_of_book(function, *rest)


class SmallBooks(Case):

    def test_small_books(self):
        for rooms in ((1, 1), (2, 1), (1, 1, 1), (2, 1, 0)):
            for book in all_books(rooms):
                self.check(book, all_forests(rooms))
        for rooms, seed in (((2, 1, 2), 131), ((1, 1, 1, 1), 132), ((1, 2, 0, 1), 133)):
            for book in some_books(rooms, 30, seed):
                self.check(book, all_forests(rooms))

    def check(self, book, forests):
        look = Look(book)
        least = look.least_forms(forests)
        for forest in least[:12]:
            granted = []
            for deed in every_deed(look):
                fault = deed_fault(look, forest, deed)
                if fault:
                    self.refused(fault[0], fault[1], hangs, book, forest, deed)
                    self.refused(fault[0], fault[1], after, book, forest, deed)
                    self.check_not_granted(look, forest, deed)
                else:
                    granted.append(deed)
                    self.check_granted(book, forest, deed, least)
            self.assertEqual(deeds(book, forest), tuple(granted))

    def check_granted(self, book, forest, deed, least):
        behind = forest
        for x, place in hangs(book, forest, deed):
            behind = hung(book[0], behind, x, place)
        self.assertEqual(behind, after(book, forest, deed))
        self.assertIn(behind, least)
        self.assertNotEqual(behind, forest)
        kind, x, j = deed
        t, room = forest[x]
        if kind == "turn":
            self.assertEqual(stands(behind, t, x), ("in", j))
            self.assertEqual(behind[x], forest[t])
            self.assertEqual(behind, turned_out(Look(book), forest, x, j))
        else:
            self.assertEqual(behind, forest[:x] + ((t, j),) + forest[x + 1:])

    def check_not_granted(self, look, forest, deed):
        """It would not lead to another least form."""
        kind, x, j = deed
        if x in look.things and forest[x] is not None:
            t, room = forest[x]
            if kind == "turn" and 0 <= j < look.rooms[x]:
                self.assertIs(look.least(turned_out(look, forest, x, j)), False)
            if kind == "shift" and 0 <= j < look.rooms[t] and j != room:
                self.assertIs(look.least(forest[:x] + ((t, j),) + forest[x + 1:]), False)

    def test_the_depth_of_the_lot_does_not_matter(self):
        rooms = (1,) * 6
        book = (rooms, tuple(either(x, y, rooms) for x, y in itertools.combinations(range(6), 2)))
        forest = (None,) + tuple((x, 0) for x in range(5))
        for x in range(1, 6):
            behind = after(book, forest, ("turn", x, 0))
            order = sorted(range(6), key=lambda z: len(climb(behind, z)))
            self.assertEqual(order, [z for z in range(x - 1)] + [x, x - 1] + list(range(x + 1, 6)))
