import itertools

from helper import APART, Case, Look, all_books, either, some_books, subsets
from nestsay.errors import BadLot, BadThing
from nestsay.links import linked, parts

ROOMS = (1, 1, 1)
BOOK = (ROOMS, (either(0, 2, ROOMS), either(1, 2, ROOMS)))
WRONG_LOTS = (None, 0, "", "012", (1, 0), (0, 0), (0, 3), (-1,), (-1, 0), (3,), (None,), ("0",), (0, None),
              (0, (1,)), (0, 10 ** 900), ((0, 1),), (0, 1, 2, 3))


class Linked(Case):

    def test_example(self):
        self.assertIs(linked(BOOK, 0, 1), False)
        self.assertIs(linked(BOOK, 0, 2), True)
        self.assertIs(linked(y=0, x=2, book=BOOK), True)

    def test_by_any_saying_in_either_order(self):
        book = (ROOMS, ((0, 1, (APART, ("in", 0))), (1, 0, (("in", 0), ("around", 0))), (2, 0, (APART,)), (2, 1, ())))
        self.assertIs(linked(book, 0, 1), True)
        self.assertIs(linked(book, 1, 0), True)
        self.assertIs(linked(book, 0, 2), False)
        self.assertIs(linked(book, 1, 2), True)

    def test_small_books(self):
        for book in all_books((2, 1, 0)) + list(some_books((1, 2, 0, 3), 50, 6)):
            look = Look(book)
            for x, y in itertools.permutations(look.things, 2):
                self.assertIs(linked(book, x, y), look.linked(x, y))

    def test_errors_and_their_order(self):
        self.asks_book(linked, None, None)
        for x in (-1, 3, 10 ** 900, None, "0", (0,)):
            self.refused(BadThing, x, linked, BOOK, x, None)
            self.refused(BadThing, x, linked, BOOK, 1, x)
        self.refused(BadThing, 1, linked, BOOK, 1, 1)
        self.refused(BadThing, 3, linked, BOOK, 3, 4)


class Parts(Case):

    def test_parts(self):
        self.assertEqual(parts(BOOK, (0, 1, 2)), ((0, 1, 2),))
        self.assertEqual(parts(BOOK, (0, 2)), ((0, 2),))
        self.assertEqual(parts(lot=(1,), book=BOOK), ((1,),))

    def test_the_empty_lot(self):
        self.assertEqual(parts(BOOK, ()), ())
        self.assertEqual(parts(((), ()), ()), ())

    def test_links_by_things_outside_do_not_count(self):
        self.assertEqual(parts(BOOK, (0, 1)), ((0,), (1,)))
        rooms = (1,) * 5
        path = (rooms, tuple(either(x, x + 1, rooms) for x in range(4)))
        self.assertEqual(parts(path, (0, 1, 3, 4)), ((0, 1), (3, 4)))
        self.assertEqual(parts(path, (0, 2, 4)), ((0,), (2,), (4,)))

    def test_they_go_by_their_least_things(self):
        rooms = (1,) * 6
        book = (rooms, (either(5, 0, rooms), either(1, 4, rooms), either(3, 2, rooms)))
        self.assertEqual(parts(book, (0, 1, 2, 3, 4, 5)), ((0, 5), (1, 4), (2, 3)))
        self.assertEqual(parts(book, (1, 2, 3, 5)), ((1,), (2, 3), (5,)))
        far = (rooms, (either(0, 5, rooms), either(5, 1, rooms), either(1, 4, rooms), either(4, 2, rooms)))
        self.assertEqual(parts(far, (0, 1, 2, 3, 4, 5)), ((0, 1, 2, 4, 5), (3,)))

    def test_every_lot_of_small_books(self):
        books = all_books((1, 1, 0)) + list(some_books((1, 2, 0, 3), 60, 7)) + list(some_books((1,) * 6, 60, 8))
        for book in books:
            look = Look(book)
            for lot in subsets(look.things):
                self.assertEqual(parts(book, lot), look.parts(lot))

    def test_many_things(self):
        rooms = (1,) * 24
        ring = (rooms, tuple(either(x, (x + 7) % 24, rooms) for x in range(24)))
        self.assertEqual(parts(ring, tuple(range(24))), (tuple(range(24)),))
        self.assertEqual(parts((rooms, ()), tuple(range(24))), tuple((x,) for x in range(24)))

    def test_errors_and_their_order(self):
        self.asks_book(parts, None)
        for lot in WRONG_LOTS:
            self.refused(BadLot, -1, parts, BOOK, lot)
        self.refused(BadLot, -1, parts, ((), ()), (0,))
