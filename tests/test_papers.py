from helper import Case, Look, all_books, either, some_books
from nestsay.papers import no_paper

THREE = ((2, 1, 1), ((1, 0, (("in", 0),)), (2, 0, (("in", 1),)), (1, 2, (("in", 0), ("around", 0)))))


class NoPaper(Case):

    def test_examples(self):
        self.assertEqual(no_paper(((1, 0, 0), ((0, 1, (("around", 0),)), (1, 2, ())))),
                         ((1, 2), (((2,), ()), ((1,), ()))))
        self.assertEqual(no_paper(book=THREE), ((0, 1, 2), (((1, 2), (2, 1)), ((0, 2), (0,)), ((0, 1), (0,)))))

    def test_books_with_a_form(self):
        for book in (((), ()), ((0,), ()), ((0, 0), ()), ((1, 1), (either(0, 1, (1, 1)),))):
            self.assertIsNone(no_paper(book))

    def test_the_first_part_that_has_no_room_and_the_least_bars(self):
        # 0 can hold 1, but none of the parts (2, 4) and (3,).
        rooms = (2, 0, 0, 0, 0)
        book = (rooms, ((0, 1, (("around", 1),)), (0, 2, (("around", 1),)), (4, 0, (("in", 0),)), (2, 4, ()),
                        (0, 3, ())))
        self.assertEqual(no_paper(book), ((0, 1, 2, 3, 4), (
            ((2, 4), (2, 4)), ((0, 2, 3, 4), ()), ((0, 1, 3, 4), ()), ((0, 1, 2, 4), ()), ((0, 1, 2, 3), ()))))

    def test_small_books(self):
        books = all_books((1, 1)) + all_books((2, 1, 0)) + all_books((1, 1, 1))
        for rooms, seed in (((2, 1, 2), 21), ((1, 2, 0, 3), 22), ((1,) * 5, 23), ((2, 2, 1, 1, 0), 24), ((1,) * 8, 25)):
            books += list(some_books(rooms, 100, seed))
        for book in books:
            self.assertEqual(no_paper(book), Look(book).paper())

    def test_errors(self):
        self.asks_book(no_paper)
