import itertools
import random

from helper import APART, Case, Look, all_books, all_forests, all_standings, either, some_books, stands, subsets
from nestsay.books import keeps
from nestsay.errors import BadBook, BadClause, TooMany
from nestsay.follows import against, follows, why
from nestsay.kernel import no_right
from nestsay.papers import no_paper
from nestsay.sayings import contrary
from nestsay.solver import form

ROOMS = (1, 1, 1)
INSIDE = (ROOMS, ((2, 0, (("in", 0),)), (2, 1, (("in", 0),))))
BARRED = (ROOMS, ((0, 1, ()),))
NESTED = (0, 1, (("in", 0), ("around", 0)))
IN = (0, 1, (("in", 0),))
AROUND = (0, 1, (("around", 0),))


def clauses(rooms, many, seed):
    """Clauses of 0 to 4 sayings, in which a saying may stand twice."""
    dice = random.Random(seed)
    every = [(x, y, lets) for x, y in itertools.permutations(range(len(rooms)), 2)
             for lets in subsets(all_standings(rooms, x, y))]
    return [tuple(dice.choices(every, k=dice.randrange(5))) for _ in range(many)]


def behind(book, clause):
    """The book with the contraries of the clause's sayings behind its own."""
    return book[0], book[1] + tuple(contrary(book[0], saying) for saying in clause)


class Follows(Case):

    def test_a_saying_that_follows(self):
        self.assertIs(follows(INSIDE, (NESTED,)), True)
        self.assertIsNone(against(INSIDE, (NESTED,)))
        paper = why(INSIDE, (NESTED,))
        self.assertEqual(paper, no_paper(behind(INSIDE, (NESTED,))))
        self.assertEqual(paper, ((0, 1, 2), (((1, 2), (1,)), ((0, 2), (0,)), ((0,), (0,)))))
        self.assertIs(follows(clause=(NESTED,), book=INSIDE), True)
        self.assertIsNone(against(clause=(NESTED,), book=INSIDE))
        self.assertEqual(why(clause=(NESTED,), book=INSIDE), paper)

    def test_one_of_several(self):
        self.assertIs(follows(INSIDE, (IN, AROUND)), True)
        self.assertIs(follows(INSIDE, (IN,)), False)
        self.assertEqual(against(INSIDE, (IN,)), (None, (0, 0), (1, 0)))
        self.assertEqual(against(INSIDE, (AROUND,)), ((1, 0), None, (0, 0)))
        self.assertIsNone(why(INSIDE, (IN,)))
        self.assertIs(follows(INSIDE, ((0, 1, (APART,)), (2, 1, (APART,)))), False)

    def test_the_empty_clause(self):
        self.assertIs(follows(INSIDE, ()), False)
        self.assertEqual(against(INSIDE, ()), form(INSIDE))
        self.assertIsNone(why(INSIDE, ()))
        self.assertIs(follows(BARRED, ()), True)
        self.assertIsNone(against(BARRED, ()))
        self.assertEqual(why(BARRED, ()), no_paper(BARRED))

    def test_each_clause_follows_from_what_cannot_be_kept(self):
        for clause in clauses(ROOMS, 40, 61):
            self.assertIs(follows(BARRED, clause), True)
            self.assertIsNone(against(BARRED, clause))
            self.assertIs(no_right(behind(BARRED, clause), why(BARRED, clause)), True)

    def test_no_things_and_one(self):
        for rooms in ((), (0,), (4,)):
            self.assertIs(follows((rooms, ()), ()), False)
            self.assertEqual(against((rooms, ()), ()), (None,) * len(rooms))
            self.assertIsNone(why((rooms, ()), ()))

    def test_things_without_rooms(self):
        self.assertIs(follows(((0, 0), ()), ((1, 0, (APART,)),)), True)
        self.assertEqual(why(((0, 0), ()), ((1, 0, (APART,)),)), ((0, 1), (((1,), ()), ((0,), ()))))
        self.assertEqual(against(((0, 0), ()), ((1, 0, ()),)), (None, None))

    def test_40_and_41_sayings(self):
        for many in (39, 40):
            self.assertIs(follows(INSIDE, (IN,) * many), False)
            self.assertIs(follows(INSIDE, (IN,) * (many - 1) + (AROUND,)), True)
            self.assertEqual(against(INSIDE, (IN,) * many), (None, (0, 0), (1, 0)))
            self.assertIsNone(why(INSIDE, (IN,) * many))
        for function in (follows, against, why):
            self.refused(TooMany, 41, function, INSIDE, (IN,) * 41)

    def test_400_sayings_and_a_clause_behind(self):
        book = (ROOMS, INSIDE[1] * 200)
        self.assertIs(follows(book, (IN, AROUND) * 20), True)
        self.assertIs(follows(book, (IN,) * 40), False)
        self.assertEqual(against(book, (IN,) * 40), (None, (0, 0), (1, 0)))
        self.assertEqual(why(book, (NESTED,) * 40), why(INSIDE, (NESTED,)))

    def test_small_books_beside_their_forms(self):
        for rooms, seed in (((1, 1), 62), ((2, 1), 63), ((3, 0), 64)):
            for book in all_books(rooms):
                self.check(book, all_forests(rooms), clauses(rooms, 20, seed))
        for rooms, seed in (((1, 1, 1), 65), ((2, 1, 0), 66), ((1, 2, 0, 1), 67)):
            forests = all_forests(rooms)
            for book in some_books(rooms, 80, seed):
                self.check(book, forests, clauses(rooms, 10, seed))

    def check(self, book, forests, some):
        forms = Look(book).forms(forests)
        for clause in some:
            breaks = [forest for forest in forms if all(stands(forest, x, y) not in lets for x, y, lets in clause)]
            self.assertIs(follows(book, clause), not breaks)
            told = against(book, clause)
            self.assertEqual(told, form(behind(book, clause)))
            self.assertEqual(why(book, clause), no_paper(behind(book, clause)))
            if breaks:
                self.assertIn(told, breaks)
                self.assertIs(keeps(book, told), True)

    def test_errors_and_their_order(self):
        for function in (follows, against, why):
            self.asks_book(function, None)
            self.asks_clause(function, INSIDE)
            self.asks_clause(function, BARRED)
            self.refused(BadBook, -1, function, None, None)
            self.refused(BadClause, -1, function, ((), ()), None)
