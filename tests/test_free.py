from helper import APART, Case, Look, all_books, either, some_books, subsets
from nestsay.errors import BadLot, BadThing
from nestsay.free import free, over
from test_links import WRONG_LOTS

ROOMS = (1, 1, 1)
BOOK = (ROOMS, (either(0, 2, ROOMS), either(1, 2, ROOMS)))


class Over(Case):

    def test_one_room_for_all_of_it(self):
        book = ((2, 0, 0), ((0, 1, (("around", 0),)), (2, 0, (("in", 1),))))
        self.assertEqual(over(book, 0, (1,)), (0,))
        self.assertEqual(over(book, 0, (2,)), (1,))
        self.assertEqual(over(part=(1, 2), t=0, book=book), ())
        self.assertEqual(over(book, 1, (2,)), ())

    def test_rooms_ascend(self):
        book = ((4, 1), ((1, 0, (("in", 0), ("in", 2), ("in", 3))), (0, 1, (APART, ("around", 1), ("around", 2),
                                                                            ("around", 3)))))
        self.assertEqual(over(book, 0, (1,)), (2, 3))
        self.assertEqual(over(book, 1, (0,)), ())

    def test_over_nothing_are_all_rooms(self):
        self.assertEqual(over(BOOK, 2, ()), (0,))
        self.assertEqual(over(((4, 0), ((0, 1, ()),)), 0, ()), (0, 1, 2, 3))
        self.assertEqual(over(((4, 0), ()), 1, ()), ())

    def test_the_lot_need_not_be_one_part(self):
        self.assertEqual(over(BOOK, 2, (0, 1)), (0,))
        self.assertEqual(over((ROOMS, ()), 1, (0, 2)), (0,))

    def test_every_lot_of_small_books(self):
        for book in all_books((2, 1, 0)) + list(some_books((1, 2, 0, 3), 60, 9)):
            look = Look(book)
            for t in look.things:
                for lot in subsets(look.things):
                    if t in lot:
                        self.refused(BadLot, t, over, book, t, lot)
                    else:
                        self.assertEqual(over(book, t, lot), look.over(t, lot))

    def test_errors_and_their_order(self):
        self.asks_book(over, None, None)
        for t in (-1, 3, 10 ** 900, None, "0", (0,)):
            self.refused(BadThing, t, over, BOOK, t, (2, 1))
        for lot in WRONG_LOTS:
            self.refused(BadLot, -1, over, BOOK, 1, lot)
        self.refused(BadLot, -1, over, BOOK, 1, (1, 1))
        self.refused(BadLot, 1, over, BOOK, 1, (0, 1))
        self.refused(BadLot, 0, over, BOOK, 0, (0,))


class Free(Case):

    def test_example(self):
        self.assertEqual(free(BOOK, (0, 1, 2)), (0, 1, 2))
        self.assertEqual(free(lot=(1, 2), book=BOOK), (1, 2))

    def test_a_lot_of_one_thing(self):
        self.assertEqual(free(BOOK, (1,)), (1,))
        self.assertEqual(free(((0, 0), ((0, 1, ()),)), (0,)), (0,))

    def test_unlike_parts_in_unlike_rooms(self):
        book = ((2, 0, 0), ((0, 1, (("around", 0),)), (2, 0, (("in", 1),))))
        self.assertEqual(free(book, (0, 1, 2)), (0,))

    def test_one_room_for_all_of_a_part(self):
        book = ((2, 1, 1), ((0, 1, (("around", 0),)), (2, 0, (("in", 1),)), either(1, 2, (2, 1, 1))))
        self.assertEqual(free(book, (0, 1, 2)), ())
        self.assertEqual(free(book, (1, 2)), (1, 2))

    def test_every_lot_of_small_books(self):
        for book in all_books((2, 1, 0)) + all_books((1, 1, 1)) + list(some_books((1, 2, 0, 3), 100, 10)):
            look = Look(book)
            for lot in subsets(look.things):
                if look.parts(lot) == (lot,):
                    self.assertEqual(free(book, lot), look.free(lot))
                else:
                    self.refused(BadLot, -1, free, book, lot)

    def test_errors_and_their_order(self):
        self.asks_book(free, None)
        for lot in WRONG_LOTS + ((), (0, 1)):
            self.refused(BadLot, -1, free, BOOK, lot)
        self.refused(BadLot, -1, free, ((), ()), ())
