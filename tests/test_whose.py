import itertools
import random

from helper import APART, Case, Look, all_books, all_forests, either, some_books
from test_follows import clauses
from nestsay.follows import follows
from nestsay.solver import keepable
from nestsay.tight import alike
from nestsay.whose import binding, lean, reasons

BOOK = ((1, 1), ((0, 1, (APART,)), (0, 1, (("in", 0), ("around", 0))), (0, 1, (APART, ("in", 0)))))
ROOMS = (1, 1, 1)
INSIDE = (ROOMS, ((2, 0, (("in", 0),)), (2, 1, (("in", 0),))))
NESTED = (0, 1, (("in", 0), ("around", 0)))


def has_form(rooms, sayings):
    look = Look((rooms, tuple(sayings)))
    return look.walk(look.things)[0] is not None


def struck(rooms, sayings, more):
    """The indices that are left, of sayings that cannot be kept with more ones."""
    left = dict(enumerate(sayings))
    if has_form(rooms, list(sayings) + more):
        return None
    for index in range(len(sayings)):
        rest = {at: saying for at, saying in left.items() if at != index}
        if not has_form(rooms, list(rest.values()) + more):
            left = rest
    return tuple(left)


class Binding(Case):

    def test_example(self):
        self.assertEqual(binding(BOOK), (0, 1))
        self.assertEqual(binding(book=BOOK), (0, 1))

    def test_books_that_can_be_kept(self):
        for book in (((), ()), ((2,), ()), ((0, 0), ()), INSIDE, (ROOMS, INSIDE[1] * 200)):
            self.assertIsNone(binding(book))

    def test_the_later_ones_are_left(self):
        self.assertEqual(binding((ROOMS, ((0, 1, ()), (0, 2, ()), (1, 2, ())))), (2,))
        self.assertEqual(binding((ROOMS, ((0, 1, ()), NESTED, (1, 0, ()), NESTED))), (2,))
        self.assertEqual(binding((ROOMS, BOOK[1] + BOOK[1])), (3, 4))
        self.assertEqual(binding((ROOMS, INSIDE[1] + ((0, 1, (APART,)),))), (0, 1, 2))

    def test_400_sayings(self):
        self.assertEqual(binding((BOOK[0], BOOK[1][:2] * 200)), (398, 399))
        self.assertEqual(binding((BOOK[0], BOOK[1][:1] + BOOK[1][1:2] * 399)), (0, 399))

    def test_small_books_by_striking(self):
        for rooms in ((1, 1), (2, 1, 0), (1, 1, 1)):
            for book in all_books(rooms):
                self.check(book)
        for rooms, seed in (((1, 1, 1), 71), ((2, 1, 0), 72), ((1, 2, 0, 1), 73), ((0, 0, 0), 74)):
            for book in some_books(rooms, 100, seed):
                self.check(book)

    def check(self, book):
        rooms, sayings = book
        told = binding(book)
        self.assertEqual(told, struck(rooms, sayings, []))
        self.assertEqual(told, reasons(book, ()))
        self.assertEqual(told is None, keepable(book))
        for index in told or ():
            self.assertIs(keepable((rooms, tuple(sayings[at] for at in told if at != index))), True)

    def test_errors(self):
        self.asks_book(binding)


class Reasons(Case):

    def test_what_follows(self):
        self.assertEqual(reasons(INSIDE, (NESTED,)), (0, 1))
        more = (ROOMS, INSIDE[1] + INSIDE[1] + ((0, 1, (APART, ("in", 0))),))
        self.assertEqual(reasons(clause=(NESTED,), book=more), (2, 3))
        self.assertEqual(reasons(more, ((1, 0, (("around", 0),)),)), (2, 3, 4))
        self.assertIsNone(reasons(INSIDE, (INSIDE[1][0][:2] + ((APART,),),)))

    def test_the_empty_clause(self):
        self.assertIsNone(reasons(INSIDE, ()))
        self.assertEqual(reasons(BOOK, ()), (0, 1))

    def test_what_follows_from_no_saying(self):
        always = (0, 1, (APART, ("in", 0), ("around", 0)))
        for book in (((1, 1), ()), BOOK, INSIDE):
            self.assertEqual(reasons(book, (always,)), ())
        self.assertEqual(reasons(((0, 0), ((0, 1, (APART,)),)), ((0, 1, (APART,)),)), ())

    def test_no_things(self):
        self.assertIsNone(reasons(((), ()), ()))
        self.assertIsNone(reasons(((4,), ()), ()))

    def test_a_book_that_cannot_be_kept(self):
        self.assertEqual(reasons(BOOK, ((0, 1, ()),)), (0, 1))
        self.assertEqual(reasons(BOOK, ((0, 1, (APART,)),)), (0,))
        self.assertEqual(reasons(BOOK, ((0, 1, (("in", 0),)),)), (1, 2))

    def test_40_sayings_behind_400(self):
        book = (BOOK[0], BOOK[1][:2] * 200)
        self.assertEqual(reasons(book, ((0, 1, (("in", 0), ("around", 0))),) * 40), (399,))
        self.assertEqual(reasons(book, ((0, 1, (APART,)),) * 40), (398,))

    def test_small_books_by_striking(self):
        for rooms, seed in (((1, 1), 75), ((2, 1), 76), ((1, 1, 1), 77), ((2, 1, 0), 78), ((1, 2, 0, 1), 79)):
            for book in itertools.chain(some_books(rooms, 40, seed), [(rooms, ())]):
                for clause in clauses(rooms, 4, seed):
                    look = Look(book)
                    against = [(x, y, tuple(each for each in Look((rooms, ())).lets[x, y] if each not in lets))
                               for x, y, lets in clause]
                    told = reasons(book, clause)
                    self.assertEqual(told, struck(look.rooms, look.sayings, against))
                    self.assertEqual(told is None, not follows(book, clause))
                    for index in told or ():
                        rest = tuple(book[1][at] for at in told if at != index)
                        self.assertIs(follows((rooms, rest), clause), False)

    def test_errors_and_their_order(self):
        self.asks_book(reasons, None)
        self.asks_clause(reasons, INSIDE)
        self.asks_clause(reasons, BOOK)


class Lean(Case):

    def test_needless_sayings(self):
        self.assertEqual(lean((ROOMS, (NESTED,) + INSIDE[1])), INSIDE)
        self.assertEqual(lean(book=(ROOMS, INSIDE[1] + (NESTED,))), INSIDE)
        self.assertEqual(lean((ROOMS, INSIDE[1] * 3)), INSIDE)
        self.assertEqual(lean((ROOMS, ((0, 1, (APART, ("in", 0), ("around", 0))),))), (ROOMS, ()))
        self.assertEqual(lean(((0, 0), ((0, 1, (APART,)),))), ((0, 0), ()))

    def test_the_later_ones_are_left(self):
        first, last = (0, 1, (("in", 0),)), (1, 0, (("around", 0),))
        self.assertEqual(lean(((1, 1), (first, last))), ((1, 1), (last,)))
        self.assertEqual(lean(((1, 1), (last, first))), ((1, 1), (first,)))

    def test_a_book_that_cannot_be_kept(self):
        self.assertEqual(lean(BOOK), (BOOK[0], BOOK[1][:2]))
        self.assertEqual(lean((ROOMS, ((0, 1, ()), (0, 2, ()), NESTED))), (ROOMS, ((0, 2, ()),)))

    def test_no_things_and_no_sayings(self):
        for rooms in ((), (0,), (4,), (2, 1, 0)):
            self.assertEqual(lean((rooms, ())), (rooms, ()))

    def test_400_sayings(self):
        self.assertEqual(lean((ROOMS, INSIDE[1] * 200)), INSIDE)

    def test_small_books_by_striking(self):
        for rooms in ((1, 1), (1, 2, 0)):
            forests = all_forests(rooms)
            for book in all_books(rooms):
                self.check(book, forests)
        for rooms, seed in (((1, 1, 1), 80), ((2, 1, 0), 81), ((1, 2, 0, 1), 82)):
            forests = all_forests(rooms)
            for book in some_books(rooms, 60, seed):
                self.check(book, forests)

    def check(self, book, forests):
        rooms, sayings = book
        left = list(range(len(sayings)))
        for index, (x, y, lets) in enumerate(sayings):
            rest = [sayings[at] for at in left if at != index]
            others = tuple(each for each in Look((rooms, ())).lets[x, y] if each not in lets)
            if not has_form(rooms, rest + [(x, y, others)]):
                left.remove(index)
        told = lean(book)
        self.assertEqual(told, (rooms, tuple(sayings[at] for at in left)))
        self.assertIs(alike(told, book), True)
        self.assertEqual(Look(told).forms(forests), Look(book).forms(forests))
        for at, saying in enumerate(told[1]):
            self.assertIs(follows((rooms, told[1][:at] + told[1][at + 1:]), (saying,)), False)

    def test_errors(self):
        self.asks_book(lean)
