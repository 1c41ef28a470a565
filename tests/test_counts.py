import random

from helper import APART, Case, Look, all_books, all_forests, either, some_books
from nestsay.counts import count, nth, number
from nestsay.errors import BadForest, BadNumber, BadSaying, NotLeast, TooMany
from nestsay.leastforms import least_right
from nestsay.solver import form

ROOMS = (1, 1, 1)
BOOK = (ROOMS, (either(0, 2, ROOMS), either(1, 2, ROOMS)))
FIVE = ((None, (0, 0), (1, 0)), (None, (2, 0), (0, 0)), ((1, 0), None, (0, 0)), ((2, 0), None, (1, 0)),
        ((2, 0), (2, 0), None))
BARRED = (ROOMS, ((0, 1, ()),))
BIG = 10 ** 900


def all_linked(rooms):
    return rooms, tuple(either(x, y, rooms) for x in range(len(rooms)) for y in range(x + 1, len(rooms)))


class Counts(Case):

    def test_example(self):
        self.assertEqual(count(BOOK), 5)
        self.assertEqual(count(book=BOOK), 5)
        self.assertEqual(tuple(nth(BOOK, k) for k in range(5)), FIVE)
        self.assertEqual(tuple(number(BOOK, forest) for forest in FIVE), (0, 1, 2, 3, 4))
        self.assertEqual(nth(k=3, book=BOOK), FIVE[3])
        self.assertEqual(number(forest=FIVE[3], book=BOOK), 3)

    def test_the_least_and_the_greatest_place_and_one_beyond(self):
        self.assertEqual(nth(BOOK, 0), FIVE[0])
        self.assertEqual(nth(BOOK, 4), FIVE[4])
        for k in (-1, 5, -5, BIG, -BIG, None, "0", (0,), ()):
            self.refused(BadNumber, k, nth, BOOK, k)

    def test_a_form_that_is_not_least(self):
        for forest in all_forests(ROOMS):
            if forest not in FIVE:
                self.refused(NotLeast, 0, number, BOOK, forest)
        self.refused(NotLeast, 0, number, BOOK, ((2, 0), (0, 0), None))
        self.refused(NotLeast, 0, number, (ROOMS, ()), (None, (0, 0), None))

    def test_no_things_and_one(self):
        self.assertEqual(count(((), ())), 1)
        self.assertEqual(nth(((), ()), 0), ())
        self.assertEqual(number(((), ()), ()), 0)
        self.refused(BadNumber, 1, nth, ((), ()), 1)
        self.refused(BadNumber, -1, nth, ((), ()), -1)
        for many in (0, 4):
            self.assertEqual(count(((many,), ())), 1)
            self.assertEqual(nth(((many,), ()), 0), (None,))
            self.assertEqual(number(((many,), ()), (None,)), 0)
            self.refused(BadNumber, 1, nth, ((many,), ()), 1)

    def test_things_without_rooms(self):
        self.assertEqual(count(((0, 0, 0), ())), 1)
        self.assertEqual(count(((0, 0, 0), ((0, 2, ()),))), 0)
        self.assertEqual(count(((0, 3), (either(0, 1, (0, 3)),))), 3)
        self.assertEqual(nth(((0, 3), (either(0, 1, (0, 3)),)), 2), ((1, 2), None))

    def test_a_book_that_cannot_be_kept(self):
        self.assertEqual(count(BARRED), 0)
        for k in (0, 1, -1):
            self.refused(BadNumber, k, nth, BARRED, k)
        for forest in all_forests(ROOMS):
            self.refused(NotLeast, 0, number, BARRED, forest)
        # It is barred below a thing that is free.
        deep = ((1, 0, 0), ((0, 1, (("around", 0),)), (1, 2, ())))
        self.assertEqual(count(deep), 0)
        self.refused(BadNumber, 0, nth, deep, 0)

    def test_the_lesser_room_ahead_of_what_is_within_the_part(self):
        rooms = (2, 1, 1)
        book = (rooms, ((0, 1, (("around", 0), ("around", 1))), (0, 2, (("around", 0), ("around", 1))),
                        either(1, 2, rooms)))
        self.assertEqual([nth(book, k) for k in range(count(book))], [
            (None, (0, 0), (1, 0)), (None, (2, 0), (0, 0)), (None, (0, 1), (1, 0)), (None, (2, 0), (0, 1))])

    def test_the_first_part_weighs_most(self):
        rooms = (2, 0, 3, 0)
        book = (rooms, (either(0, 1, rooms), either(2, 3, rooms)))
        self.assertEqual([nth(book, k) for k in range(count(book))],
                         [(None, (0, i), None, (2, j)) for i in range(2) for j in range(3)])
        one = ((4, 0, 0), ((0, 1, (("around", 1), ("around", 3))), (2, 0, (("in", 0), ("in", 1), ("in", 2)))))
        self.assertEqual([nth(one, k) for k in range(count(one))],
                         [(None, (0, i), (0, j)) for i in (1, 3) for j in (0, 1, 2)])

    def test_the_lesser_thing_outermost_first(self):
        rooms = (1, 1)
        self.assertEqual(nth((rooms, (either(0, 1, rooms),)), 0), (None, (0, 0)))
        self.assertEqual(nth((rooms, (either(0, 1, rooms),)), 1), ((1, 0), None))

    def test_ten_things_and_more(self):
        many = count(all_linked((4,) * 10))
        self.assertEqual(many, 3628800 * 4 ** 9)
        last = nth(all_linked((4,) * 10), many - 1)
        self.assertEqual(last, tuple((x + 1, 3) for x in range(9)) + (None,))
        self.assertEqual(number(all_linked((4,) * 10), last), many - 1)
        self.refused(BadNumber, many, nth, all_linked((4,) * 10), many)
        self.assertEqual(count(((1,) * 10, ())), 1)
        for things in (11, 24):
            book = ((1,) * things, ())
            self.refused(TooMany, things, count, book)
            self.refused(TooMany, things, nth, book, 0)
            self.refused(TooMany, things, nth, book, None)
            self.refused(TooMany, things, number, book, (None,) * things)
            self.refused(TooMany, things, number, book, ((1, 0),) + (None,) * (things - 1))
            self.refused(BadForest, -1, number, book, None)
            self.refused(TooMany, things, count, (book[0], ((0, 1, ()),)))

    def test_small_books_beside_all_least_forms(self):
        for rooms in ((1, 1), (2, 1), (4, 2), (1, 1, 1), (2, 1, 0)):
            self.check(all_books(rooms), all_forests(rooms))
        for rooms, seed in (((2, 1, 2), 101), ((1, 1, 1, 1), 102), ((1, 2, 0, 1), 103), ((2, 2, 2), 104)):
            self.check(list(some_books(rooms, 40, seed)) + [all_linked(rooms)], all_forests(rooms))

    def check(self, books, forests):
        for book in books:
            least = Look(book).least_forms(forests)
            self.assertEqual(count(book), len(least))
            self.assertEqual([nth(book, k) for k in range(len(least))], least)
            self.assertEqual([number(book, forest) for forest in least], list(range(len(least))))
            self.refused(BadNumber, len(least), nth, book, len(least))
            self.assertEqual(count(book) == 0, form(book) is None)

    def test_the_count_is_told_by_parts_and_free_things(self):
        for rooms, seed in (((2, 1, 2, 1, 3), 105), ((1,) * 6, 106), ((0, 1, 2, 3, 4, 2), 107)):
            for book in list(some_books(rooms, 20, seed)) + [all_linked(rooms)]:
                look = Look(book)
                self.assertEqual(count(book), self.of_lot(look, look.things, None))

    def of_lot(self, look, lot, holder):
        many = 1
        for part in look.parts(lot):
            within = sum(self.of_lot(look, tuple(x for x in part if x != t), t) for t in look.free(part))
            many *= within * (1 if holder is None else len(look.over(holder, part)))
        return many

    def test_there_and_back_of_larger_books(self):
        dice = random.Random(108)
        for book in list(some_books((2, 3, 1, 0, 4, 2, 1, 2), 40, 109)) + [all_linked((2, 3, 1, 1, 4, 2, 1, 2))]:
            many = count(book)
            before = None
            for k in sorted(dice.randrange(many) for _ in range(20)) if many else ():
                forest = nth(book, k)
                self.assertIs(least_right(book, forest), True)
                self.assertEqual(number(book, forest), k)
                if before is not None:
                    self.assertLessEqual(Look(book).in_order(before), Look(book).in_order(forest))
                before = forest

    def test_errors_and_their_order(self):
        for function, rest in ((count, ()), (nth, (None,)), (number, (None,))):
            self.asks_book(function, *rest)
            self.refused(BadSaying, 0, function, ((1,) * 11, (None,)), *rest)
        self.asks_forest_of_book(number)
        self.refused(BadNumber, None, nth, (ROOMS, ((0, 1, (APART,)),)), None)
