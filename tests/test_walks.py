import itertools
import random

from helper import Case, Look, all_books, all_forests, either, less, some_books, stands
from test_deeds import deed_fault, turned_out
from nestsay.deeds import after, deeds
from nestsay.errors import BadForest, NotLeast
from nestsay.walks import walk

ROOMS = (1, 1, 1)
ALL = (ROOMS, (either(0, 1, ROOMS), either(0, 2, ROOMS), either(1, 2, ROOMS)))
CHAIN = (None, (0, 0), (1, 0))
BARRED = (ROOMS, ((0, 1, ()),))


def room_in(forest, x, holder):
    kind, room = stands(forest, x, holder)
    return room if kind == "in" else None


class Led:
    """The walk as the document tells it, by its own look."""

    def __init__(self, look, one, two):
        self.look, self.forest, self.two, self.told = look, one, two, []
        for part in look.parts(look.things):
            self.lead(part)

    def lead(self, part):
        top = [x for x in part if self.two[x] is None or self.two[x][0] not in part][0]
        while self.forest[top] is not None and self.forest[top][0] in part:
            j = room_in(self.two, self.forest[top][0], top)
            self.told.append(("turn", top, j))
            self.forest = turned_out(self.look, self.forest, top, j)
        for rest in self.look.parts(less(part, top)):
            x = [x for x in rest if self.forest[x][0] == top][0]
            place = top, room_in(self.two, x, top)
            if self.forest[x] != place:
                self.told.append(("shift", x, place[1]))
                self.forest = self.forest[:x] + (place,) + self.forest[x + 1:]
            self.lead(rest)


class Walk(Case):

    def test_example(self):
        told = (("turn", 2, 0), ("turn", 2, 0), ("turn", 1, 0))
        self.assertEqual(walk(ALL, CHAIN, ((1, 0), (2, 0), None)), told)
        self.assertEqual(walk(two=((1, 0), (2, 0), None), one=CHAIN, book=ALL), told)
        self.assertEqual(after(ALL, CHAIN, told[0]), (None, (2, 0), (0, 0)))
        self.assertEqual(after(ALL, (None, (2, 0), (0, 0)), told[1]), ((2, 0), (0, 0), None))
        self.assertEqual(after(ALL, ((2, 0), (0, 0), None), told[2]), ((1, 0), (2, 0), None))

    def test_no_things_and_one(self):
        self.assertEqual(walk(((), ()), (), ()), ())
        self.assertEqual(walk(((4,), ()), (None,), (None,)), ())
        self.assertEqual(walk(((0, 0), ()), (None, None), (None, None)), ())

    def test_shifts(self):
        rooms = (3, 0, 2)
        book = (rooms, ((0, 1, (("around", 0), ("around", 1), ("around", 2))), (2, 0, (("in", 0), ("in", 2)))))
        self.assertEqual(walk(book, (None, (0, 0), (0, 2)), (None, (0, 2), (0, 0))), (("shift", 1, 2), ("shift", 2, 0)))
        self.assertEqual(walk(book, (None, (0, 0), (0, 2)), (None, (0, 1), (0, 2))), (("shift", 1, 1),))

    def test_the_room_in_two_however_deep(self):
        rooms = (2, 2, 2)
        book = (rooms, tuple(either(x, y, rooms) for x, y in ((0, 1), (0, 2), (1, 2))))
        self.assertEqual(walk(book, (None, (0, 0), (1, 0)), ((1, 1), (2, 1), None)),
                         (("turn", 2, 1), ("turn", 2, 1), ("turn", 1, 1)))
        self.assertEqual(walk(book, (None, (0, 0), (1, 0)), (None, (0, 1), (1, 1))), (("shift", 1, 1), ("shift", 2, 1)))

    def test_each_part_for_itself(self):
        rooms = (1, 1, 1, 1)
        book = (rooms, (either(0, 2, rooms), either(1, 3, rooms)))
        self.assertEqual(walk(book, (None, None, (0, 0), (1, 0)), ((2, 0), (3, 0), None, None)),
                         (("turn", 2, 0), ("turn", 3, 0)))
        self.assertEqual(walk(book, (None, None, (0, 0), (1, 0)), (None, (3, 0), (0, 0), None)), (("turn", 3, 0),))

    def test_a_part_is_led_ahead_of_the_next_one(self):
        rooms = (2, 1, 1, 1, 1)
        book = (rooms, tuple((0, x, (("around", 0), ("around", 1))) for x in (1, 2, 3, 4))
                + (either(1, 3, rooms), either(2, 4, rooms)))
        self.assertEqual(walk(book, (None, (0, 0), (0, 0), (1, 0), (2, 0)), (None, (3, 0), (4, 0), (0, 1), (0, 1))),
                         (("shift", 1, 1), ("turn", 3, 0), ("shift", 2, 1), ("turn", 4, 0)))

    def test_small_books(self):
        for rooms in ((1, 1), (2, 2), (1, 1, 1)):
            for book in all_books(rooms):
                self.check(book, 12)
        for rooms, seed in (((2, 1, 2), 141), ((1, 1, 1, 1), 142), ((1, 2, 0, 1), 143)):
            for book in list(some_books(rooms, 25, seed)) + [
                    (rooms, tuple(either(x, y, rooms) for x, y in itertools.combinations(range(len(rooms)), 2)))]:
                self.check(book, 8)

    def check(self, book, most):
        look = Look(book)
        least = look.least_forms(all_forests(book[0]))
        dice = random.Random(144)
        for one in dice.sample(least, min(most, len(least))):
            self.assertEqual(walk(book, one, one), ())
            for two in dice.sample(least, min(most, len(least))):
                told = walk(book, one, two)
                self.assertEqual(told, tuple(Led(look, one, two).told))
                self.check_walk(look, book, one, two, told)

    def check_walk(self, look, book, one, two, told):
        at = one
        for deed in told:
            self.assertIsNone(deed_fault(look, at, deed))
            self.assertIn(deed, deeds(book, at))
            at = after(book, at, deed)
        self.assertEqual(at, two)
        things = len(book[0])
        turns = [deed for deed in told if deed[0] == "turn"]
        self.assertLessEqual(len(turns), things * (things - 1) // 2)
        self.assertLessEqual(len(told) - len(turns), things)

    def test_the_longest_walk(self):
        for many in range(2, 8):
            rooms = (2,) * many
            book = (rooms, tuple(either(x, y, rooms) for x, y in itertools.combinations(range(many), 2)))
            one = (None,) + tuple((x, 0) for x in range(many - 1))
            two = tuple((x + 1, 1) for x in range(many - 1)) + (None,)
            told = walk(book, one, two)
            self.assertEqual([deed[0] for deed in told], ["turn"] * (many * (many - 1) // 2))
            self.check_walk(Look(book), book, one, two, told)

    def test_errors_and_their_order(self):
        self.asks_book(walk, None, None)
        self.asks_forest_of_book(walk, None)
        self.asks_forest(lambda rooms, two: walk((rooms, ()), (None,) * len(rooms), two))
        self.refused(BadForest, -1, walk, ALL, (None, None, None), None)
        self.refused(NotLeast, 0, walk, ALL, (None, None, None), CHAIN)
        self.refused(NotLeast, 1, walk, ALL, CHAIN, (None, None, None))
        self.refused(NotLeast, 0, walk, ALL, (None, None, None), (None, None, None))
        self.refused(NotLeast, 1, walk, (ROOMS, ()), (None,) * 3, CHAIN)
        self.refused(NotLeast, 0, walk, BARRED, CHAIN, CHAIN)
