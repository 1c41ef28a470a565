import itertools

from helper import (ODD, Case, Look, all_books, all_forests, book_fault, changed, either, forest_fault,
                    lies_within, nested, of_parts, some_books)
from nestsay.leastforms import least_right

ROOMS = (1, 1, 1)
BOOK = (ROOMS, (either(0, 2, ROOMS), either(1, 2, ROOMS)))
FIVE = ((None, (0, 0), (1, 0)), (None, (2, 0), (0, 0)), ((1, 0), None, (0, 0)), ((2, 0), None, (1, 0)),
        ((2, 0), (2, 0), None))


class LeastRight(Case):

    def test_example(self):
        for forest in FIVE:
            self.assertIs(least_right(BOOK, forest), True)
        self.assertIs(least_right(BOOK, ((2, 0), (0, 0), None)), False)
        self.assertIs(least_right(forest=FIVE[0], book=BOOK), True)
        self.assertEqual({forest for forest in all_forests(ROOMS) if least_right(BOOK, forest)}, set(FIVE))

    def test_no_things_and_one(self):
        self.assertIs(least_right(((), ()), ()), True)
        self.assertIs(least_right(((), ()), (None,)), False)
        self.assertIs(least_right(((4,), ()), (None,)), True)
        self.assertIs(least_right(((4,), ()), ()), False)

    def test_things_without_rooms(self):
        self.assertIs(least_right(((0, 0), ()), (None, None)), True)
        self.assertIs(least_right(((0, 0), ((0, 1, ()),)), (None, None)), False)
        self.assertIs(least_right(((0, 1), (either(0, 1, (0, 1)),)), ((1, 0), None)), True)

    def test_no_form(self):
        self.assertIs(least_right(BOOK, (None, None, None)), False)
        self.assertIs(least_right(BOOK, (None, (0, 0), (0, 0))), False)
        for forest in all_forests(ROOMS):
            self.assertIs(least_right((ROOMS, ((0, 1, ()),)), forest), False)

    def test_held_without_a_link(self):
        self.assertIs(least_right((ROOMS, ()), (None, None, None)), True)
        self.assertIs(least_right((ROOMS, ()), (None, (0, 0), None)), False)
        # 1 is held in 0 by the link of what lies in it.
        self.assertIs(least_right(BOOK, (None, (0, 0), (1, 0))), True)
        self.assertIs(least_right((ROOMS, (either(0, 2, ROOMS),)), (None, (0, 0), (1, 0))), False)

    def test_books_are_judged(self):
        forest = (None, (0, 0))
        for book in changed(((1, 1), ((0, 1, (("in", 0), ("around", 0))),))):
            right = (book_fault(book) is None and forest_fault(book[0], forest) is None
                     and Look(book).least(forest))
            self.assertIs(least_right(book, forest), right, book)
        for book in (None, 3, "", (), (ROOMS,), (ROOMS, (), ()), (ROOMS, ((0, 1, ()),) * 401), nested(50),
                     of_parts(9999), (ROOMS, of_parts(9999)), (of_parts(9999), ()), ((1,) * 25, ())):
            self.assertIs(least_right(book, FIVE[0]), False)

    def test_forests_are_judged(self):
        for value in FIVE + (((2, 0), (0, 0), None), (None, None, None)):
            for forest in changed(value):
                right = forest_fault(ROOMS, forest) is None and Look(BOOK).least(forest)
                self.assertIs(least_right(BOOK, forest), right, forest)
        for forest in ODD + ((None,) * 4, (None, (2, 0), (1, 0)), (None, (0, False), (1, 0)), (None, (False, 0), None),
                             nested(50), of_parts(9999)):
            self.assertIs(least_right(BOOK, forest), False)

    def test_both_wrong(self):
        for book, forest in itertools.product(ODD, ODD):
            self.assertIs(least_right(book, forest), (book, forest) == (((), ()), ()))

    def test_a_book_of_400_sayings(self):
        self.assertIs(least_right((ROOMS, BOOK[1] * 200), FIVE[3]), True)
        self.assertIs(least_right((ROOMS, BOOK[1] * 200 + BOOK[1]), FIVE[3]), False)


class Within(Case):

    def test_small_books_beside_all_forests(self):
        for rooms in ((1, 1), (2, 1), (0, 3), (1, 1, 1), (2, 1, 0)):
            self.check(all_books(rooms), all_forests(rooms))
        for rooms, seed in (((1, 1, 1, 1), 91), ((2, 1, 2), 92), ((1, 2, 0, 1), 93)):
            self.check(some_books(rooms, 25, seed), all_forests(rooms))

    def check(self, books, forests):
        for book in books:
            look = Look(book)
            forms = look.forms(forests)
            least = [forest for forest in forests if least_right(book, forest)]
            self.assertEqual(least, [forest for forest in forests if look.least(forest)])
            self.assertEqual(bool(least), bool(forms))
            if len(forms) < 40:
                for forest in forms:
                    inner = [other for other in forms if lies_within(other, forest)]
                    self.assertEqual(len([other for other in inner if other in least]), 1)
                    self.assertEqual(inner == [forest], forest in least)

    def test_what_lies_on_the_floor_are_the_parts(self):
        for book in some_books((1, 2, 0, 1), 60, 94):
            look = Look(book)
            for forest in all_forests(book[0])[::7]:
                if least_right(book, forest):
                    floor = tuple(look.under(forest, x) for x in look.things if forest[x] is None)
                    self.assertEqual(tuple(sorted(floor)), look.parts(look.things))
