import itertools

from helper import (APART, Case, Look, all_books, all_forests, all_standings, book_fault, changed, forest_fault,
                    nested, of_parts, some_books, stands)
from nestsay.books import broken, is_book, keeps, let, made_book
from nestsay.errors import BadBook, BadForest, BadRooms, BadSaying, BadThing, Ring, TooMany

EITHER = (0, 1, (("in", 0), ("around", 0)))
BOOK = ((1, 1), (EITHER,))
FOREST = (None, (0, 1))
WRONG_FORESTS = (None, 0, "", (), (None,), (None,) * 3, (None, (0, 1)), (None, (0, True)), (None, (True, 0)),
                 ((1, 0), (0, 0)), (None, (0, 0, 0)), (None, 0), nested(50), of_parts(9999))


class MadeBook(Case):

    def test_books_are_returned(self):
        for book in (((), ()), ((1, 1), ()), BOOK, ((1, 1), (EITHER, EITHER)), ((0, 0), ((1, 0, ()),)),
                     ((1, 1), (EITHER, (1, 0, (APART,)))), ((1, 1), (EITHER,) * 400), ((4,) * 24, ())):
            self.assertEqual(made_book(book), book)
            self.assertIs(is_book(book), True)
        self.assertEqual(made_book(thing=BOOK), BOOK)
        self.assertIs(is_book(thing=BOOK), True)

    def test_errors_and_their_order(self):
        self.asks_book(made_book)
        self.refused(BadRooms, 1, made_book, ((1, 5), None))
        self.refused(BadBook, -1, made_book, ((1, 1), 400))
        self.refused(TooMany, 401, made_book, ((1, 1), (EITHER,) * 401))
        self.refused(TooMany, 500, made_book, ((), (None,) * 500))
        self.refused(BadSaying, 399, made_book, ((1, 1), (EITHER,) * 399 + ((0, 1, ("in",)),)))
        self.refused(BadSaying, 0, made_book, ((), (EITHER,)))

    def test_no_books(self):
        for thing in (None, True, 0, "", (), ((), (), ()), ((),), (None, ()), ((), None), ((True,), ()), ((5,), ()),
                      ((1, 1), (EITHER,) * 401), ((1, 1), EITHER), ((1, 1), ((0, 1, (("in", False),)),)),
                      ((1, 1), ((False, 1, ()),)), nested(50), ((1, 1), of_parts(9999)), (of_parts(9999), ())):
            self.assertIs(is_book(thing), False, thing)
            self.assertIs(keeps(thing, (None, None)), False, thing)

    def test_any_value_is_judged(self):
        for book in changed(((2, 1), ((0, 1, (("in", 0), ("around", 1))),))):
            fault = book_fault(book)
            self.assertIs(is_book(book), fault is None, book)
            self.as_told(fault, made_book, book)
            kept = fault is None and forest_fault(book[0], FOREST) is None and Look(book).broken(FOREST) is None
            self.assertIs(keeps(book, FOREST), kept, book)


class Let(Case):

    def test_without_sayings_all_are_let(self):
        for rooms in ((1, 1), (2, 1, 0), (0, 0), (4, 3)):
            for x, y in itertools.permutations(range(len(rooms)), 2):
                self.assertEqual(let((rooms, ()), x, y), tuple(all_standings(rooms, x, y)))

    def test_sayings_in_either_order(self):
        book = ((2, 1, 1), ((0, 1, (APART, ("in", 0), ("around", 1))), (1, 0, (("in", 0), ("in", 1), ("around", 0))),
                            (2, 1, (APART,)), (2, 1, (APART,))))
        self.assertEqual(let(book, 0, 1), (("in", 0), ("around", 1)))
        self.assertEqual(let(book, 1, 0), (("in", 1), ("around", 0)))
        self.assertEqual(let(book, 1, 2), (APART,))
        self.assertEqual(let(y=1, x=2, book=book), (APART,))
        self.assertEqual(let(book, 0, 2), (APART, ("in", 0), ("around", 0), ("around", 1)))

    def test_nothing_is_let(self):
        self.assertEqual(let(((1, 1), ((0, 1, ()),)), 0, 1), ())
        self.assertEqual(let(((1, 1), ((0, 1, ()),)), 1, 0), ())
        self.assertEqual(let(((1, 1), (EITHER, (1, 0, (APART,)))), 0, 1), ())

    def test_some_books(self):
        for rooms, seed in (((2, 0, 1), 1), ((1, 1, 1, 1), 2), ((3, 2, 4, 0), 3)):
            for book in some_books(rooms, 100, seed):
                look = Look(book)
                for x, y in itertools.permutations(range(len(rooms)), 2):
                    self.assertEqual(let(book, x, y), look.lets[x, y])

    def test_errors_and_their_order(self):
        self.asks_book(let, None, None)
        for x in (-1, 2, 10 ** 900, None, "0", (0,)):
            self.refused(BadThing, x, let, BOOK, x, None)
            self.refused(BadThing, x, let, BOOK, 1, x)
        self.refused(BadThing, 1, let, BOOK, 1, 1)
        self.refused(BadThing, 5, let, BOOK, 5, 6)


class Keeps(Case):

    def test_example(self):
        self.assertIs(keeps(BOOK, (None, (0, 0))), True)
        self.assertIs(keeps(BOOK, ((1, 0), None)), True)
        self.assertIs(keeps(forest=(None, None), book=BOOK), False)
        self.assertIsNone(broken(BOOK, (None, (0, 0))))
        self.assertIsNone(broken(BOOK, ((1, 0), None)))
        self.assertEqual(broken(forest=(None, None), book=BOOK), 0)

    def test_the_first_that_is_broken(self):
        book = ((1, 1, 0), (EITHER, (1, 2, (APART,)), (2, 0, (("in", 0),)), (2, 1, ())))
        self.assertEqual(broken(book, (None, None, None)), 0)
        self.assertEqual(broken(book, (None, (0, 0), (1, 0))), 1)
        self.assertEqual(broken(book, (None, (0, 0), None)), 2)
        self.assertEqual(broken(book, (None, (0, 0), (0, 0))), 3)
        self.assertEqual(broken(((1, 1), (EITHER,) * 399 + ((0, 1, ()),)), (None, (0, 0))), 399)

    def test_x_greater_than_y_and_deep_ones(self):
        book = ((2, 2, 0), ((2, 0, (("in", 1),)), (2, 1, (("in", 0),)), (1, 0, (("in", 1),))))
        self.assertIs(keeps(book, (None, (0, 1), (1, 0))), True)
        self.assertEqual(broken(book, (None, (0, 0), (1, 0))), 0)
        self.assertEqual(broken(book, (None, (0, 1), (1, 1))), 1)

    def test_books_without_things(self):
        self.assertIs(keeps(((), ()), ()), True)
        self.assertIsNone(broken(((), ()), ()))
        self.assertIs(keeps(((), ()), (None,)), False)

    def test_small_books_beside_all_forests(self):
        for rooms in ((1, 1), (2, 0), (1, 1, 1)):
            forests = all_forests(rooms)
            for book in all_books(rooms):
                look = Look(book)
                for forest in forests:
                    index = look.broken(forest)
                    self.assertEqual(broken(book, forest), index)
                    self.assertIs(keeps(book, forest), index is None)

    def test_books_of_several_sayings_beside_all_forests(self):
        for rooms, seed in (((2, 1, 2), 4), ((1, 0, 2, 1), 5)):
            forests = all_forests(rooms)
            for book in some_books(rooms, 40, seed):
                for forest in forests:
                    first = [index for index, (x, y, lets) in enumerate(book[1]) if stands(forest, x, y) not in lets]
                    self.assertEqual(broken(book, forest), first[0] if first else None)
                    self.assertIs(keeps(book, forest), not first)

    def test_what_is_no_forest(self):
        for forest in WRONG_FORESTS:
            for book in (BOOK, ((1, 1), ())):
                self.assertIs(keeps(book, forest), False, forest)
                self.as_told(forest_fault((1, 1), forest), broken, book, forest)
        for forest in changed((None, (0, 0))):
            fault = forest_fault((1, 1), forest)
            self.assertIs(keeps(BOOK, forest), fault is None and stands(forest, 0, 1) != APART, forest)
            self.as_told(fault, broken, BOOK, forest)

    def test_errors_and_their_order(self):
        self.asks_book(broken, None)
        self.asks_book(broken, ((1, 0), (0, 0)))
        self.refused(BadForest, -1, broken, BOOK, None)
        self.refused(BadForest, 1, broken, BOOK, ((1, 0), (0, 1)))
        self.refused(Ring, 0, broken, BOOK, ((1, 0), (0, 0)))
