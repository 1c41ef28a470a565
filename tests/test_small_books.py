"""What holds of every book: small ones beside all forests of their things."""

import itertools

from helper import Case, Look, all_books, all_forests, some_books, subsets
from nestsay.books import broken, keeps
from nestsay.errors import BadLot
from nestsay.free import free
from nestsay.kernel import no_right
from nestsay.links import parts
from nestsay.papers import no_paper
from nestsay.solver import barred, form, form_by, keepable


class SmallBooks(Case):

    def check(self, book, forests):
        look = Look(book)
        forms = [forest for forest in forests if look.broken(forest) is None]
        told, paper = form(book), no_paper(book)
        self.assertIs(keepable(book), bool(forms), book)
        if forms:
            self.assertIn(told, forms)
            self.assertIs(keeps(book, told), True)
            self.assertIsNone(broken(book, told))
            self.assertIn(form_by(book, look.things[::-1]), forms)
            self.assertIsNone(barred(book))
            self.assertIsNone(paper)
        else:
            self.assertIsNone(told)
            self.assertIsNone(form_by(book, look.things[::-1]))
            self.assertIs(no_right(book, paper), True)
            self.assertEqual(paper[0], barred(book))
            self.assertEqual(parts(book, barred(book)), (barred(book),))
            self.assertEqual(free(book, barred(book)), ())

    def test_all_books_of_few_things(self):
        for rooms in ((), (3,), (1, 1), (4, 0), (2, 1, 0), (1, 1, 1), (2, 0, 0)):
            forests = all_forests(rooms)
            for book in all_books(rooms):
                self.check(book, forests)

    def test_books_of_several_sayings(self):
        for rooms, many, seed in (((2, 1, 2), 300, 41), ((1, 1, 1, 1), 300, 42), ((1, 2, 0, 1), 200, 43),
                                  ((2, 1, 1, 2), 60, 44), ((1,) * 5, 40, 45)):
            forests = all_forests(rooms)
            for book in some_books(rooms, many, seed):
                self.check(book, forests)

    def test_a_form_exactly_if_each_part_has_a_free_thing(self):
        for book in itertools.chain(all_books((1, 1, 1)), all_books((2, 1, 0)), some_books((1, 2, 0, 1), 100, 46)):
            barred_lots = []
            for lot in subsets(range(len(book[0]))):
                try:
                    if not free(book, lot):
                        barred_lots.append(lot)
                except BadLot:
                    self.assertNotEqual(parts(book, lot), (lot,))
            self.assertIs(keepable(book), not barred_lots)
            if barred_lots:
                self.assertIn(barred(book), barred_lots)
