import itertools

from helper import APART, Case, Look, all_books, either, some_books
from nestsay.books import keeps
from nestsay.errors import BadOrder
from nestsay.solver import barred, form, form_by, keepable

ROOMS = (1, 1, 1)
BOOK = (ROOMS, (either(0, 2, ROOMS), either(1, 2, ROOMS)))
BARRED = ((1, 0, 0), ((0, 1, (("around", 0),)), (1, 2, ())))


class Form(Case):

    def test_examples(self):
        self.assertEqual(form(((1, 1), (either(0, 1, (1, 1)),))), (None, (0, 0)))
        self.assertEqual(form(book=BOOK), (None, (0, 0), (1, 0)))
        self.assertEqual(form_by(BOOK, (2, 1, 0)), ((2, 0), (2, 0), None))
        self.assertEqual(form_by(order=(0, 1, 2), book=BOOK), form(BOOK))
        self.assertEqual(barred(BARRED), (1, 2))
        self.assertIsNone(form(BARRED))
        self.assertIs(keepable(BARRED), False)
        self.assertIs(keepable(book=BOOK), True)
        self.assertIsNone(barred(book=BOOK))

    def test_no_things(self):
        self.assertEqual(form(((), ())), ())
        self.assertEqual(form_by(((), ()), ()), ())
        self.assertIsNone(barred(((), ())))
        self.assertIs(keepable(((), ())), True)

    def test_things_without_rooms(self):
        self.assertEqual(form(((0, 0), ())), (None, None))
        self.assertEqual(form(((0, 0), ((0, 1, (APART,)),))), (None, None))
        self.assertEqual(barred(((0, 0), ((0, 1, ()),))), (0, 1))
        self.assertEqual(form(((0, 1), (either(0, 1, (0, 1)),))), ((1, 0), None))

    def test_without_sayings_all_lie_on_the_floor(self):
        self.assertEqual(form(((4,) * 24, ())), (None,) * 24)

    def test_sayings_that_let_nothing(self):
        self.assertEqual(barred(((4, 4), ((1, 0, ()),))), (0, 1))
        self.assertEqual(barred(((1, 1, 1), ((0, 2, ()),))), (0, 2))

    def test_several_sayings_of_two_things(self):
        one = (0, 1, (("in", 0), ("around", 0)))
        self.assertEqual(form(((1, 1), (one, one, one))), (None, (0, 0)))
        self.assertEqual(form(((1, 1), (one, (1, 0, (APART, ("around", 0)))))), ((1, 0), None))
        self.assertEqual(barred(((1, 1), (one, (1, 0, (APART,))))), (0, 1))

    def test_the_least_room_that_is_over_the_part(self):
        rooms = (4, 1, 1)
        book = (rooms, ((0, 1, (("around", 1), ("around", 2), ("around", 3))), (2, 0, (("in", 2), ("in", 3))),
                        either(1, 2, rooms)))
        self.assertEqual(form(book), (None, (0, 2), (1, 0)))
        self.assertEqual(form_by(book, (2, 1, 0)), (None, (2, 0), (0, 2)))

    def test_unlike_parts_in_unlike_rooms(self):
        book = ((2, 0, 0), ((0, 1, (("around", 1),)), (2, 0, (("in", 0),))))
        self.assertEqual(form(book), (None, (0, 1), (0, 0)))
        self.assertEqual(barred(((2, 0, 0), book[1] + ((1, 2, ()),))), (0, 1, 2))

    def test_the_walk_goes_down_ahead_of_the_next_part(self):
        rooms = (1, 0, 0, 1, 0, 0)
        deep = (rooms, ((0, 1, (("around", 0),)), (1, 2, ()), (0, 2, (("around", 0),)), (3, 4, ())))
        self.assertEqual(barred(deep), (1, 2))
        late = (rooms, ((0, 1, (("around", 0),)), (3, 4, (("around", 0),)), (4, 5, ())))
        self.assertEqual(barred(late), (4, 5))
        self.assertEqual(barred((rooms, ((0, 1, (("around", 0),)), (3, 4, ())))), (3, 4))

    def test_parts_go_by_their_least_things_also_by_an_order(self):
        rooms = (0, 0, 0, 0)
        book = (rooms, ((0, 3, ()), (1, 2, ())))
        self.assertEqual(barred(book), (0, 3))
        for order in itertools.permutations(range(4)):
            self.assertIsNone(form_by(book, order))

    def test_small_books(self):
        books = all_books((1, 1)) + all_books((2, 1, 0)) + all_books((1, 1, 1))
        for rooms, seed in (((2, 1, 2), 11), ((1, 2, 0, 3), 12), ((1,) * 5, 13), ((2, 2, 1, 1, 0), 14), ((1,) * 8, 15)):
            books += list(some_books(rooms, 100, seed))
        for book in books:
            look = Look(book)
            forest, ended = look.walk(look.things)
            self.assertEqual(form(book), forest)
            self.assertEqual(barred(book), ended)
            self.assertIs(keepable(book), forest is not None)

    def test_every_order(self):
        books = all_books((2, 1, 0))
        for rooms, seed in (((2, 1, 2), 16), ((1, 2, 0, 3), 17), ((1, 1, 1, 1), 18)):
            books += list(some_books(rooms, 60, seed))
        for book in books:
            look = Look(book)
            for order in itertools.permutations(look.things):
                told = form_by(book, order)
                self.assertEqual(told, look.walk(order)[0])
                self.assertEqual(told is None, form(book) is None)
                self.assertIs(keeps(book, told), told is not None)

    def test_wrong_orders(self):
        for order in (None, 3, "012", (), (0, 1), (0, 1, 2, 2), (0, 0, 1), (0, 1, 1), (1, 2, 3), (0, 1, 3), (-1, 0, 1),
                      (0, 1, None), (0, "1", 2), (0, (1,), 2), (0, 1, 2, 3), (2, 2, 2), (0, 1, 10 ** 900)):
            self.refused(BadOrder, -1, form_by, BOOK, order)
        self.refused(BadOrder, -1, form_by, ((), ()), (0,))
        self.refused(BadOrder, -1, form_by, BARRED, (0, 1))

    def test_errors_and_their_order(self):
        self.asks_book(form)
        self.asks_book(form_by, None)
        self.asks_book(barred)
        self.asks_book(keepable)
