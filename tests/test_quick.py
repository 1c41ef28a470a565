"""Books at the limits are answered quickly."""

import itertools
import random

from helper import APART, Case, all_standings, stands
from nestsay.books import broken, is_book, keeps, let, made_book
from nestsay.counts import count, nth, number
from nestsay.follows import against, follows, why
from nestsay.free import free, over
from nestsay.kernel import no_right
from nestsay.leastforms import least_right
from nestsay.links import linked, parts
from nestsay.mending import mended
from nestsay.papers import no_paper
from nestsay.solver import barred, form, form_by, keepable
from nestsay.tight import alike, implies, parting, possible, tight
from nestsay.whose import binding, lean, reasons

THINGS = tuple(range(24))
PAIRS = tuple(itertools.combinations(THINGS, 2))


def some_forest(rooms, dice):
    """A forest of any shape: each thing on the floor, or in one that is in no later one."""
    order = dice.sample(THINGS, 24)
    forest = [None] * 24
    for at, x in enumerate(order[1:]):
        if dice.random() > 0.1:
            holder = dice.choice(order[:at + 1])
            forest[x] = (holder, dice.randrange(rooms[holder]))
    return tuple(forest)


def said_of(rooms, forest, dice, lost):
    """400 sayings that the forest keeps."""
    for x, y in list(PAIRS) + dice.choices(PAIRS, k=124):
        if dice.random() < 0.5:
            x, y = y, x
        told = stands(forest, x, y)
        yield x, y, tuple(each for each in all_standings(rooms, x, y) if each == told or dice.random() > lost)


def all_linked(rooms):
    return tuple((x, y, tuple(each for each in all_standings(rooms, x, y) if each != APART)) for x, y in PAIRS)


class Quick(Case):

    def check_kept(self, book):
        with self.quickly():
            told = form(book)
            self.assertIs(keeps(book, told), True)
            self.assertIsNone(broken(book, told))
            self.assertIsNone(barred(book))
            self.assertIsNone(no_paper(book))
            self.assertIs(keepable(book), True)
            self.assertIs(keeps(book, form_by(book, THINGS[::-1])), True)
        return told

    def check_barred(self, book):
        with self.quickly():
            self.assertIsNone(form(book))
            self.assertIsNone(form_by(book, THINGS[::-1]))
            self.assertIs(keepable(book), False)
            paper = no_paper(book)
            self.assertIs(no_right(book, paper), True)
            self.assertEqual(paper[0], barred(book))
            self.assertEqual(free(book, paper[0]), ())
        return paper[0]

    def test_400_sayings_that_a_forest_keeps(self):
        for seed in range(5):
            for lost in (0.2, 0.5, 0.9):
                dice = random.Random(seed)
                rooms = (4,) * 24
                forest = some_forest(rooms, dice)
                book = (rooms, tuple(said_of(rooms, forest, dice, lost)))
                self.assertEqual(len(book[1]), 400)
                self.assertIs(keeps(book, forest), True)
                self.check_kept(book)

    def test_400_sayings_of_which_one_is_another_one(self):
        for seed in range(5):
            dice = random.Random(seed)
            rooms = (4,) * 24
            sayings = list(said_of(rooms, some_forest(rooms, dice), dice, 0.5))
            x, y, lets = sayings[0]
            sayings[-1] = (y, x, ())
            self.check_barred((rooms, tuple(sayings)))

    def test_all_things_linked(self):
        for rooms in ((1,) * 24, (4,) * 24, (1,) * 23 + (0,)):
            told = self.check_kept((rooms, all_linked(rooms)))
            self.assertEqual(told, (None,) + tuple((x, 0) for x in range(23)))

    def test_a_bar_far_down(self):
        rooms = (4,) * 22 + (0, 0)
        self.assertEqual(self.check_barred((rooms, all_linked(rooms))), (22, 23))

    def test_no_thing_free_among_all(self):
        rooms = (4,) * 24
        ring = tuple((x, (x + 1) % 24, (APART, ("in", 0), ("in", 1), ("in", 2), ("in", 3))) for x in THINGS)
        self.assertEqual(self.check_barred((rooms, all_linked(rooms) + ring)), THINGS)

    def test_no_sayings_and_the_same_saying_400_times(self):
        rooms = (4,) * 24
        self.assertEqual(self.check_kept((rooms, ())), (None,) * 24)
        self.check_kept((rooms, ((22, 23, (("in", 3), ("around", 3))),) * 400))
        self.check_barred((rooms, ((22, 23, ()),) * 400))

    def test_every_two_things(self):
        rooms = (4,) * 24
        dice = random.Random(9)
        book = (rooms, tuple(said_of(rooms, some_forest(rooms, dice), dice, 0.5)))
        with self.quickly():
            self.assertEqual(made_book(book), book)
            self.assertIs(is_book(book), True)
            for x, y in PAIRS:
                self.assertEqual(linked(book, x, y), APART not in let(book, x, y))
            for x in THINGS:
                parts(book, THINGS[:x] + THINGS[x + 1:])
                over(book, x, THINGS[:x])

    def test_what_follows_from_400_sayings(self):
        for seed, lost in ((11, 0.2), (12, 0.5), (13, 0.9)):
            dice = random.Random(seed)
            rooms = (4,) * 24
            forest = some_forest(rooms, dice)
            book = (rooms, tuple(said_of(rooms, forest, dice, lost)))
            clause = tuple((x, y, tuple(each for each in all_standings(rooms, x, y) if each != stands(forest, x, y)))
                           for x, y in PAIRS[:40])
            with self.quickly():
                self.assertIs(follows(book, clause), False)
                self.assertIs(keeps(book, against(book, clause)), True)
                self.assertIsNone(why(book, clause))
                self.assertIsNone(reasons(book, clause))
            with self.quickly():
                told = reasons(book, book[1][360:])
                self.assertIs(follows((rooms, tuple(book[1][at] for at in told)), book[1][360:]), True)
                self.assertIsNotNone(why(book, book[1][360:]))
            with self.quickly():
                for x, y in PAIRS[::20]:
                    self.assertIn(stands(forest, x, y), possible(book, x, y))

    def test_books_of_400_sayings_side_by_side(self):
        for seed, lost in ((14, 0.2), (15, 0.5), (16, 0.9)):
            dice = random.Random(seed)
            rooms = (4,) * 24
            book = (rooms, tuple(said_of(rooms, some_forest(rooms, dice), dice, lost)))
            other = (rooms, book[1][:399] + ((1, 2, ()),))
            with self.quickly():
                self.assertIs(implies(book, book), True)
                self.assertIs(implies(other, book), True)
                self.assertIs(alike(book, (rooms, book[1][::-1])), True)
                self.assertEqual(parting(other, book)[0], 1)
            with self.quickly():
                short = lean(book)
                self.assertIs(alike(short, book), True)
                self.assertLess(len(short[1]), 400)
                self.assertIsNone(binding(book))
            with self.quickly():
                left = binding(other)
                self.assertIs(keepable((rooms, tuple(other[1][at] for at in left))), False)
                self.assertIs(keepable(lean(other)), False)

    def test_binding_of_all_things(self):
        rooms = (4,) * 24
        ring = tuple((x, (x + 1) % 24, (APART, ("in", 0), ("in", 1), ("in", 2), ("in", 3))) for x in THINGS)
        book = (rooms, ring + all_linked(rooms))
        with self.quickly():
            left = binding(book)
            self.assertIs(keepable((rooms, tuple(book[1][at] for at in left))), False)

    def test_mending_of_any_forest(self):
        for seed, lost in ((17, 0.2), (18, 0.5), (19, 0.9)):
            dice = random.Random(seed)
            rooms = (4,) * 24
            book = (rooms, tuple(said_of(rooms, some_forest(rooms, dice), dice, lost)))
            with self.quickly():
                for _ in range(10):
                    told = mended(book, some_forest(rooms, dice))
                    self.assertIs(least_right(book, told), True)
                    self.assertEqual(mended(book, told), told)

    def test_tables_and_counts_of_ten_things(self):
        rooms = (4,) * 10
        pairs = list(itertools.combinations(range(10), 2))
        dice = random.Random(20)
        for some in (pairs, [(x, x + 1) for x in range(9)], [(0, x) for x in range(1, 10)], dice.sample(pairs, 20),
                     [(x, y) for x, y in pairs if x % 2 != y % 2]):
            sayings = [(x, y, tuple(all_standings(rooms, x, y)[1:])) for x, y in some]
            book = (rooms, tuple(dice.choices(sayings, k=400 - len(sayings)) + sayings))
            with self.quickly():
                many = count(book)
                self.assertGreater(many, 4 ** 9)
                for k in [0, many - 1] + [dice.randrange(many) for _ in range(20)]:
                    forest = nth(book, k)
                    self.assertIs(least_right(book, forest), True)
                    self.assertEqual(number(book, forest), k)
            with self.quickly():
                self.assertEqual(len(tight(book)), 45)
