import itertools
import random

from helper import Case, Look, all_books, book_fault, changed, less, nested, of_parts, some_books, subsets
from nestsay.kernel import no_right
from nestsay.papers import no_paper
from nestsay.solver import keepable

BOOK = ((2, 1, 1), ((1, 0, (("in", 0),)), (2, 0, (("in", 1),)), (1, 2, (("in", 0), ("around", 0)))))
LOT = (0, 1, 2)
NOTES = (((1, 2), (2, 1)), ((0, 2), (0,)), ((0, 1), (0,)))
FEW = (None, True, False, -1, 0, 1, 2, 3, "", (), (0,), (1,), (2,), (True,), (0, 1), (1, 0), (1, 2), (0, 2), (0, 1, 2),
       ((1,), ()), ((2,), (2, 2)), ((1,), (1,)), nested(40))


def every_paper(rooms):
    """Each paper whose parts and bars have the right form, of things that may be wrong."""
    things = range(len(rooms))
    for lot in subsets(things):
        rows = [[(part, bars) for part in subsets(less(things, t)) if part
                 for bars in itertools.product(part, repeat=rooms[t])] for t in lot]
        for notes in itertools.product(*rows):
            yield lot, notes


class NoRight(Case):

    def test_example(self):
        self.assertIs(no_right(BOOK, (LOT, NOTES)), True)
        self.assertIs(no_right(paper=(LOT, NOTES), book=BOOK), True)
        self.assertIs(no_right(BOOK, (LOT, (((1, 2), (1, 2)),) + NOTES[1:])), False)
        self.assertIs(no_right(BOOK, (LOT, (NOTES[0], ((0,), (0,)), NOTES[2]))), True)

    def test_wrong_lots(self):
        for lot in ((), (0,), (1, 2), (0, 1), (0, 2, 1), (0, 1, 1), (0, 1, 3), (0, 1, 2, 3), (False, 1, 2), (0, True, 2),
                    (-1, 0, 1), None, 0, "", (0, 1, None), (0, 1, (2,))):
            self.assertIs(no_right(BOOK, (lot, NOTES)), False, lot)
        self.assertIs(no_right(BOOK, ((), ())), False)
        self.assertIs(no_right(BOOK, ((0,), (((), ()),))), False)
        self.assertIs(no_right(((0, 0), ((0, 1, ()),)), ((0,), (((1,), ()),))), False)

    def test_a_lot_that_is_not_one_part(self):
        book = ((0, 0, 0), ((0, 1, ()),))
        self.assertIs(no_right(book, ((0, 1), (((1,), ()), ((0,), ())))), True)
        self.assertIs(no_right(book, ((0, 1, 2), (((1,), ()), ((0,), ()), ((0, 1), ())))), False)
        apart = ((0, 0), ())
        self.assertIs(no_right(apart, ((0, 1), (((1,), ()), ((0,), ())))), False)

    def test_a_part_that_is_not_one_part(self):
        book = ((0, 0, 0), ((0, 1, ()), (1, 2, ())))
        self.assertIs(no_right(book, ((0, 1, 2), (((1, 2), ()), ((0,), ()), ((0, 1), ())))), True)
        self.assertIs(no_right(book, ((0, 1, 2), (((1,), ()), ((2,), ()), ((0,), ())))), True)
        self.assertIs(no_right(book, ((0, 1, 2), (((1, 2), ()), ((0, 2), ()), ((0, 1), ())))), False)
        self.assertIs(no_right(book, ((0, 1, 2), (((), ()), ((0,), ()), ((0, 1), ())))), False)

    def test_links_go_by_the_things_of_the_lot_alone(self):
        book = ((0, 0, 0, 0), ((0, 1, ()), (1, 2, ()), (2, 3, ())))
        self.assertIs(no_right(book, ((0, 1, 3), (((1,), ()), ((0,), ()), ((0,), ())))), False)
        self.assertIs(no_right(book, ((0, 1), (((1,), ()), ((0,), ())))), True)
        # The things of a part are of the lot.
        self.assertIs(no_right(book, ((0, 1), (((1, 2), ()), ((0,), ())))), False)
        self.assertIs(no_right(book, ((0, 1), (((1,), ()), ((2,), ())))), False)
        self.assertIs(no_right(book, ((0, 1), (((0,), ()), ((0,), ())))), False)
        self.assertIs(no_right(book, ((0, 1), (((0, 1), ()), ((0,), ())))), False)

    def test_wrong_notes(self):
        for notes in (None, (), NOTES[:2], NOTES + NOTES[:1], NOTES[::-1], (None,) + NOTES[1:], "abc",
                      (((1, 2),),) + NOTES[1:], (((1, 2), (2, 1), ()),) + NOTES[1:]):
            self.assertIs(no_right(BOOK, (LOT, notes)), False, notes)

    def test_wrong_parts_and_bars(self):
        for note in (((2, 1), (2, 1)), ((1, 2), (2,)), ((1, 2), (2, 1, 1)), ((1, 2), ()), ((1, 2), None), ((1, 2), 2),
                     ((1, 2), (2, 0)), ((1, 2), (2, True)), ((True, 2), (2, 1)), ((1, 2), ("2", 1)), ((1,), (2, 1)),
                     ((2,), (2, 1)), ((1, 2), (2, 2)), ((1, 2), (1, 1)), ((0, 1, 2), (2, 1)), ((1, 2), (2, None)),
                     ((1, 2), (-1, 1)), ((1, 2), (2, 3)), ((1, 2), ((2,), 1)), (None, (2, 1)), (12, (2, 1))):
            self.assertIs(no_right(BOOK, (LOT, (note,) + NOTES[1:])), False, note)

    def test_true_and_false_are_no_things(self):
        book = ((1, 1), ((0, 1, ()),))
        self.assertIs(no_right(book, ((0, 1), (((1,), (1,)), ((0,), (0,))))), True)
        for lot in ((False, 1), (0, True)):
            self.assertIs(no_right(book, (lot, (((1,), (1,)), ((0,), (0,))))), False)
        for notes in ((((True,), (1,)), ((0,), (0,))), (((1,), (True,)), ((0,), (0,))),
                      (((1,), (1,)), ((False,), (0,))), (((1,), (1,)), ((0,), (False,)))):
            self.assertIs(no_right(book, ((0, 1), notes)), False, notes)

    def test_books_are_judged(self):
        paper = ((0, 1), (((1,), ()), ((0,), ())))
        self.assertIs(no_right(((0, 0), ((0, 1, ()),)), paper), True)
        for book in changed(((0, 0), ((0, 1, ()),))):
            right = book_fault(book) is None and Look(book).no_right(paper)
            self.assertIs(no_right(book, paper), right, book)
        for book in (None, (), "", 3, ((0, 0),), ((0, 0), ((0, 1, ()),), ()), ((0, 0), ((0, 1, ()),) * 401)):
            self.assertIs(no_right(book, paper), False)
        self.assertIs(no_right(((), ()), ((), ())), False)

    def test_any_value_is_judged(self):
        look = Look(BOOK)
        for paper in changed((LOT, NOTES)):
            self.assertIs(no_right(BOOK, paper), look.no_right(paper), paper)
        for paper in (None, True, "", 0, (), (LOT,), (LOT, NOTES, ()), nested(50), of_parts(9999), (of_parts(9000), ()),
                      (LOT, of_parts(9000)), (LOT, ((of_parts(4000), of_parts(4000)),) + NOTES[1:])):
            self.assertIs(no_right(BOOK, paper), False)

    def test_changed_papers_of_small_books(self):
        for rooms, seed in (((2, 1, 0), 31), ((1, 1, 1), 32), ((2, 2, 1, 1), 33)):
            for book in some_books(rooms, 60, seed):
                paper = no_paper(book)
                if paper is not None:
                    look = Look(book)
                    for other in changed(paper, FEW):
                        self.assertIs(no_right(book, other), look.no_right(other), (book, other))

    def test_every_paper_of_small_books(self):
        for book in all_books((1, 1)) + all_books((2, 1)):
            self.check_papers(book, list(every_paper(book[0])))
        dice = random.Random(34)
        for rooms in ((1, 1, 1), (2, 1, 0), (2, 0, 0)):
            papers = list(every_paper(rooms))
            for book in all_books(rooms):
                self.check_papers(book, dice.sample(papers, min(len(papers), 40)))

    def check_papers(self, book, papers):
        look = Look(book)
        kept = keepable(book)
        for paper in papers:
            right = no_right(book, paper)
            self.assertIs(right, look.no_right(paper), (book, paper))
            self.assertFalse(right and kept, (book, paper))
