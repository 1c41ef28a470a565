import itertools
import random

from helper import Case, Look, all_forests, climb, either, some_books
from test_deeds import WRONG_DEEDS
from nestsay.crane import deed_code, hang_code, lay, lay_code, walk_code
from nestsay.deeds import after, deeds, hangs
from nestsay.errors import (BadDeed, BadForest, BadNumber, BadRoom, BadThing, BadWalk, NotFree, NotLeast, OnFloor)
from nestsay.forests import hung
from nestsay.journal import lay_text, open_text, read_journal, shut_text
from nestsay.machine import made_code, new_yard, run
from nestsay.walks import walk

BOOK = ((1, 1), (either(0, 1, (1, 1)),))
FOREST = (None, (0, 0))
ROOMS = (1, 1, 1)
ALL = (ROOMS, (either(0, 1, ROOMS), either(0, 2, ROOMS), either(1, 2, ROOMS)))
CHAIN = (None, (0, 0), (1, 0))
WRONG_NUMBERS = (0, -1, -10 ** 900, None, "1", (1,))


class HangCode(Case):

    def test_hang_code(self):
        self.assertEqual(hang_code(()), ())
        self.assertEqual(hang_code(((1, None), (0, (1, 0)))),
                         (("lift", 1), ("lower", None), ("lift", 0), ("lower", (1, 0))))
        self.assertEqual(hang_code(hangs=((7, (3, 2)),)), (("lift", 7), ("lower", (3, 2))))


class DeedCode(Case):

    def test_example(self):
        told = (("write", "1 open 1:- 0:1.0\n"), ("lift", 1), ("lower", None), ("lift", 0), ("lower", (1, 0)),
                ("write", "2 shut\n"))
        self.assertEqual(deed_code(BOOK, FOREST, ("turn", 1, 0), 1), told)
        self.assertEqual(deed_code(number=1, deed=("turn", 1, 0), forest=FOREST, book=BOOK), told)
        self.assertEqual(deed_code(BOOK, FOREST, ("turn", 1, 0), 799)[::5],
                         (("write", "799 open 1:- 0:1.0\n"), ("write", "800 shut\n")))

    def test_every_deed_of_small_books(self):
        for rooms, seed in (((2, 1, 2), 171), ((1, 1, 1), 172), ((1, 2, 0, 1), 173)):
            for book in some_books(rooms, 30, seed):
                for forest in Look(book).least_forms(all_forests(rooms))[:6]:
                    for deed in deeds(book, forest):
                        self.check(book, forest, deed)

    def check(self, book, forest, deed):
        told = hangs(book, forest, deed)
        code = deed_code(book, forest, deed, 1)
        self.assertEqual(code, (("write", open_text(1, told)),) + hang_code(told) + (("write", shut_text(2)),))
        self.assertEqual(made_code(book[0], code), code)
        behind = run(book[0], new_yard(book[0], forest), code)
        self.assertEqual(behind[:2], (after(book, forest, deed), None))
        self.assertEqual(read_journal(book[0], behind[2]), (3, after(book, forest, deed), None, ""))

    def test_errors_and_their_order(self):
        self.asks_book(deed_code, None, None, None)
        self.asks_forest_of_book(deed_code, None, None)
        self.refused(NotLeast, 0, deed_code, BOOK, (None, None), None, None)
        for deed in WRONG_DEEDS:
            self.refused(BadDeed, deed, deed_code, ALL, CHAIN, deed, None)
        self.refused(BadThing, 2, deed_code, BOOK, FOREST, ("turn", 2, 0), None)
        self.refused(OnFloor, 0, deed_code, BOOK, FOREST, ("turn", 0, 0), None)
        self.refused(BadRoom, 1, deed_code, BOOK, FOREST, ("turn", 1, 1), None)
        self.refused(NotFree, 1, deed_code, ((1, 0), (either(0, 1, (1, 0)),)), FOREST, ("turn", 1, 0), None)
        for number in WRONG_NUMBERS:
            self.refused(BadNumber, number, deed_code, BOOK, FOREST, ("turn", 1, 0), number)


class WalkCode(Case):

    def test_deeds_one_behind_another(self):
        one, two = ("turn", 2, 0), ("turn", 1, 0)
        behind = after(ALL, CHAIN, one)
        told = deed_code(ALL, CHAIN, one, 5) + deed_code(ALL, behind, two, 7)
        self.assertEqual(walk_code(ALL, CHAIN, (one, two), 5), told)
        self.assertEqual(walk_code(number=5, walk=(one, two), forest=CHAIN, book=ALL), told)
        self.assertEqual(walk_code(ALL, CHAIN, (one,), 1), deed_code(ALL, CHAIN, one, 1))

    def test_no_deeds(self):
        self.assertEqual(walk_code(ALL, CHAIN, (), 1), ())
        self.assertEqual(walk_code(((), ()), (), (), 3), ())

    def test_walks_of_small_books(self):
        dice = random.Random(174)
        for rooms, seed in (((2, 1, 2), 175), ((1, 1, 1, 1), 176)):
            for book in some_books(rooms, 30, seed):
                least = Look(book).least_forms(all_forests(rooms))
                for _ in range(3 if least else 0):
                    one, two = dice.choice(least), dice.choice(least)
                    told = walk(book, one, two)
                    code = walk_code(book, one, told, 1)
                    behind = run(rooms, new_yard(rooms, one), code)
                    self.assertEqual(behind[:2], (two, None))
                    self.assertEqual(read_journal(rooms, behind[2]), (2 * len(told) + 1, two, None, ""))

    def test_errors_and_their_order(self):
        self.asks_book(walk_code, None, None, None)
        self.asks_forest_of_book(walk_code, None, None)
        self.refused(NotLeast, 0, walk_code, ALL, (None, None, None), None, None)
        for told in (None, 3, "turn", ""):
            self.refused(BadWalk, -1, walk_code, ALL, CHAIN, told, None)
        for number in WRONG_NUMBERS:
            self.refused(BadNumber, number, walk_code, ALL, CHAIN, (), number)
            self.refused(BadNumber, number, walk_code, ALL, CHAIN, (None,), number)
        for deed in WRONG_DEEDS:
            self.refused(BadDeed, deed, walk_code, ALL, CHAIN, (("turn", 2, 0), deed, None), 1)
        # A deed is asked behind those ahead of it: 0 lies on the floor at first, then in 1.
        self.refused(OnFloor, 0, walk_code, ALL, CHAIN, (("turn", 0, 0), None), 1)
        self.refused(OnFloor, 1, walk_code, ALL, CHAIN, (("turn", 1, 0), ("turn", 1, 0)), 1)
        self.refused(BadRoom, 1, walk_code, ALL, CHAIN, (("turn", 1, 0), ("turn", 0, 1)), 1)
        self.assertEqual(len(walk_code(ALL, CHAIN, (("turn", 1, 0), ("turn", 0, 0)), 1)), 16)


class Lay(Case):

    def test_example(self):
        self.assertEqual(lay((1, 1), ((1, 0), None), (None, (0, 0))), ((0, None), (1, (0, 0))))
        self.assertEqual(lay(target=(None, (0, 0)), forest=((1, 0), None), rooms=(1, 1)), ((0, None), (1, (0, 0))))

    def test_lesser_depth_first(self):
        rooms = (1, 1, 2, 1)
        self.assertEqual(lay(rooms, (None,) * 4, ((1, 0), (2, 0), None, (2, 1))), ((1, (2, 0)), (3, (2, 1)), (0, (1, 0))))
        self.assertEqual(lay(rooms, ((1, 0), (2, 0), None, (2, 1)), (None,) * 4), ((0, None), (1, None), (3, None)))

    def test_all_small_forests(self):
        for rooms in ((), (2,), (1, 1), (2, 1, 0), (1, 1, 1)):
            for forest, target in itertools.product(all_forests(rooms), repeat=2):
                self.check(rooms, forest, target)
        dice = random.Random(177)
        some = all_forests((1, 2, 1, 1))
        for _ in range(200):
            self.check((1, 2, 1, 1), dice.choice(some), dice.choice(some))

    def check(self, rooms, forest, target):
        told = lay(rooms, forest, target)
        order = sorted(range(len(rooms)), key=lambda x: (len(climb(target, x)), x))
        self.assertEqual(told, tuple((x, target[x]) for x in order if forest[x] != target[x]))
        at = forest
        for x, place in told:
            at = hung(rooms, at, x, place)
        self.assertEqual(at, target)
        code = lay_code(rooms, forest, target, 1)
        if forest == target:
            self.assertEqual(code, ())
        else:
            self.assertEqual(code, (("write", lay_text(1, target)),) + hang_code(told) + (("write", shut_text(2)),))
        behind = run(rooms, new_yard(rooms, forest), code)
        self.assertEqual(behind[:2], (target, None))
        self.assertEqual(read_journal(rooms, behind[2])[1:], (target, None, ""))

    def test_numbers(self):
        self.assertEqual(lay_code((1, 1), ((1, 0), None), (None, (0, 0)), 17),
                         (("write", "17 lay - 0.0\n"), ("lift", 0), ("lower", None), ("lift", 1), ("lower", (0, 0)),
                          ("write", "18 shut\n")))
        self.assertEqual(lay_code(number=1, target=(), forest=(), rooms=()), ())

    def test_errors_and_their_order(self):
        for function, rest in ((lay, ()), (lay_code, (None,))):
            self.asks_rooms(function, None, None, *rest)
            self.asks_forest(function, None, *rest)
            self.asks_forest(lambda rooms, target: function(rooms, (None,) * len(rooms), target, *rest))
            self.refused(BadForest, -1, function, (1, 1), FOREST, None, *rest)
        for number in WRONG_NUMBERS:
            self.refused(BadNumber, number, lay_code, (1, 1), FOREST, (None, None), number)
            self.refused(BadNumber, number, lay_code, (1, 1), FOREST, FOREST, number)
