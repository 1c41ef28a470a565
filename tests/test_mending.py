import random

from helper import APART, Case, Look, all_books, all_forests, either, lies_within, some_books
from nestsay.errors import Barred, BadForest
from nestsay.leastforms import least_right
from nestsay.mending import mended
from nestsay.solver import barred, form

ROOMS = (1, 1, 1)
BOOK = (ROOMS, (either(0, 2, ROOMS), either(1, 2, ROOMS)))
FIVE = ((None, (0, 0), (1, 0)), (None, (2, 0), (0, 0)), ((1, 0), None, (0, 0)), ((2, 0), None, (1, 0)),
        ((2, 0), (2, 0), None))
BARRED = ((1, 0, 0), ((0, 1, (("around", 0),)), (1, 2, ())))


class Mended(Case):

    def test_examples(self):
        self.assertEqual(mended(BOOK, (None, None, None)), (None, (0, 0), (1, 0)))
        self.assertEqual(mended(BOOK, ((2, 0), (0, 0), None)), ((2, 0), (2, 0), None))
        self.assertEqual(mended(forest=(None, None, None), book=BOOK), FIVE[0])

    def test_a_least_form_is_told_as_it_is(self):
        for forest in FIVE:
            self.assertEqual(mended(BOOK, forest), forest)

    def test_no_things_and_one(self):
        self.assertEqual(mended(((), ()), ()), ())
        self.assertEqual(mended(((4,), ()), (None,)), (None,))

    def test_things_without_rooms(self):
        self.assertEqual(mended(((0, 0), ()), (None, None)), (None, None))
        self.assertEqual(mended(((0, 1), ()), ((1, 0), None)), (None, None))
        self.assertEqual(mended(((0, 1), (either(0, 1, (0, 1)),)), (None, None)), ((1, 0), None))

    def test_a_book_that_cannot_be_kept(self):
        for forest in all_forests(BARRED[0]):
            self.refused(Barred, (1, 2), mended, BARRED, forest)

    def test_the_lot_of_the_least_walk(self):
        # With 1 outermost the walk would meet the lot (2, 3) first.
        rooms = (1, 1, 0, 0, 0, 0)
        book = (rooms, (either(0, 1, rooms), either(0, 2, rooms), either(0, 3, rooms), either(1, 4, rooms),
                        either(1, 5, rooms), (2, 3, ()), (4, 5, ())))
        self.assertEqual(barred(book), (4, 5))
        for forest in ((None,) * 6, ((1, 0),) + (None,) * 5, (None, (0, 0)) + (None,) * 4):
            self.refused(Barred, (4, 5), mended, book, forest)

    def test_the_free_thing_of_least_depth(self):
        rooms = (1, 1, 1)
        book = (rooms, tuple(either(x, y, rooms) for x, y in ((0, 1), (0, 2), (1, 2))))
        self.assertEqual(mended(book, (None, None, (1, 0))), (None, (0, 0), (1, 0)))
        self.assertEqual(mended(book, ((1, 0), None, None)), ((2, 0), None, (1, 0)))
        self.assertEqual(mended(book, ((1, 0), (2, 0), None)), ((1, 0), (2, 0), None))
        self.assertEqual(mended(book, ((2, 0), (2, 0), None)), ((2, 0), (0, 0), None))

    def test_the_room_in_which_the_least_thing_of_the_part_lies(self):
        rooms = (3, 3, 0)
        book = (rooms, ((0, 1, (("around", 1), ("around", 2))), either(0, 2, rooms), either(1, 2, rooms)))
        self.assertEqual(mended(book, (None, (0, 2), (0, 0))), (None, (0, 2), (1, 0)))
        self.assertEqual(mended(book, (None, (0, 0), (0, 2))), (None, (0, 1), (1, 0)))
        self.assertEqual(mended(book, (None, None, (1, 2))), (None, (0, 1), (1, 2)))
        # However deep it lies there, also in another thing; but not by the room of the other one.
        deep = ((3, 3, 3), ((0, 2, (("around", 0), ("around", 1), ("around", 2))),))
        self.assertEqual(mended(deep, (None, (0, 2), (1, 1))), (None, None, (0, 2)))
        self.assertEqual(mended(deep, (None, None, (1, 2))), (None, None, (0, 0)))

    def test_small_books_beside_all_forests(self):
        for rooms in ((1, 1), (2, 1), (0, 3), (1, 1, 1), (2, 1, 0)):
            self.check(all_books(rooms), all_forests(rooms), 30)
        for rooms, seed in (((2, 1, 2), 111), ((1, 1, 1, 1), 112), ((1, 2, 0, 1), 113)):
            self.check(some_books(rooms, 60, seed), all_forests(rooms), 40)

    def check(self, books, forests, most):
        dice = random.Random(114)
        for book in books:
            look = Look(book)
            for forest in dice.sample(forests, min(most, len(forests))):
                if form(book) is None:
                    self.refused(Barred, barred(book), mended, book, forest)
                    continue
                told = mended(book, forest)
                self.assertEqual(told, look.mend(forest))
                self.assertIs(least_right(book, told), True)
                self.assertEqual(mended(book, told), told)
                if look.broken(forest) is None:
                    self.assertIs(lies_within(told, forest), True)
                if look.least(forest):
                    self.assertEqual(told, forest)

    def test_each_form_has_just_one_least_form_within_it(self):
        for rooms, seed in (((1, 1, 1), 115), ((2, 1, 2), 116)):
            forests = all_forests(rooms)
            for book in some_books(rooms, 25, seed):
                look = Look(book)
                least = look.least_forms(forests)
                for forest in look.forms(forests):
                    self.assertEqual([other for other in least if lies_within(other, forest)], [mended(book, forest)])

    def test_errors_and_their_order(self):
        self.asks_book(mended, None)
        self.asks_forest_of_book(mended)
        self.refused(BadForest, 2, mended, BARRED, (None, None, (1, 0)))
        self.refused(BadForest, -1, mended, (ROOMS, ((0, 1, (APART,)),)), ())
