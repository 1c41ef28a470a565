"""The power fails anywhere in a deed or in an opening: small books, each row and each sign."""

import itertools
import random

from helper import Case, Look, all_forests, either, some_books
from nestsay.crane import deed_code, walk_code
from nestsay.deeds import deeds
from nestsay.forests import hung
from nestsay.leastforms import least_right
from nestsay.machine import cut, new_yard, off, run
from nestsay.opening import done, healed, healing_code, opened, opening_code, pace, rest_code
from nestsay.walks import walk


def cuts(rooms, yard, code):
    """All yards at which a cut can leave this one while the code is run."""
    for rows in range(len(code) + 1):
        text = code[rows][1] if rows < len(code) and code[rows][0] == "write" else ""
        for signs in range(max(1, len(text))):
            yield cut(rooms, yard, code, rows, signs)


class Cuts(Case):

    def books(self, many, seed):
        for rooms in ((1, 1), (1, 1, 1), (2, 1, 2), (1, 2, 0, 1)):
            yield from some_books(rooms, many, seed)
            yield rooms, tuple(either(x, y, rooms) for x, y in itertools.combinations(range(len(rooms)), 2))

    def test_a_deed_and_its_opening(self):
        dice = random.Random(191)
        for book in self.books(25, 192):
            least = Look(book).least_forms(all_forests(book[0]))
            for forest in dice.sample(least, min(3, len(least))):
                ahead = new_yard(book[0], forest)
                granted = deeds(book, forest)
                for deed in dice.sample(granted, min(2, len(granted))):
                    self.check_deed(book, ahead, deed, 1)

    def check_deed(self, book, ahead, deed, number):
        rooms = book[0]
        code = deed_code(book, ahead[0], deed, number)
        behind = run(rooms, ahead, code)
        told = [ahead, behind]
        for at, stopped in enumerate(cuts(rooms, ahead, code)):
            self.assertIsNotNone(pace(rooms, stopped))
            rest = opened(rooms, stopped)
            self.assertIn(rest, told)
            # Whether the open row is whole decides it.
            self.assertEqual(rest, ahead if at < len(code[0][1]) else behind)
            for again in cuts(rooms, off(stopped), opening_code(rooms, stopped)):
                self.assertEqual(opened(rooms, again), rest)
                for once_more in itertools.islice(cuts(rooms, again, opening_code(rooms, again)), 0, None, 5):
                    self.assertEqual(opened(rooms, once_more), rest)

    def test_a_deed_behind_other_ones(self):
        rooms = (2, 1, 2)
        book = (rooms, tuple(either(x, y, rooms) for x, y in itertools.combinations(range(3), 2)))
        yard = new_yard(rooms, (None, (0, 0), (1, 0)))
        dice = random.Random(193)
        for number in range(1, 13, 2):
            deed = dice.choice(deeds(book, yard[0]))
            self.check_deed(book, yard, deed, number)
            yard = run(rooms, yard, deed_code(book, yard[0], deed, number))

    def test_a_walk_goes_on_from_any_stop(self):
        dice = random.Random(194)
        for book in self.books(15, 195):
            least = Look(book).least_forms(all_forests(book[0]))
            for _ in range(2 if least else 0):
                one, two = dice.choice(least), dice.choice(least)
                self.check_walk(book, one, two)

    def check_walk(self, book, one, two):
        rooms = book[0]
        told = walk(book, one, two)
        code = walk_code(book, one, told, 1)
        begun = new_yard(rooms, one)
        whole = run(rooms, begun, code)
        self.assertEqual(whole[0], two)
        for stopped in cuts(rooms, begun, code):
            rest = opened(rooms, stopped)
            self.assertEqual(run(rooms, rest, rest_code(book, one, told, rest)), whole)
            self.assertLessEqual(done(rooms, rest), len(told))
            self.assertEqual(rest[2], whole[2][:len(rest[2])])

    def test_a_healing_is_cut(self):
        dice = random.Random(196)
        for book in self.books(12, 197):
            rooms = book[0]
            forests = all_forests(rooms)
            for forest in Look(book).least_forms(forests)[:2]:
                yard = (dice.choice(forests), None, new_yard(rooms, forest)[2] + dice.choice(("", "1 op")))
                code = healing_code(book, yard)
                behind = healed(book, yard)
                for stopped in cuts(rooms, yard, code):
                    again = healed(book, stopped)
                    self.assertIs(least_right(book, again[0]), True)
                    self.assertEqual(opening_code(rooms, again), ())
                    if stopped[2].count("\n") > 1:
                        self.assertEqual(opened(rooms, stopped), behind)

    def test_somebody_touches_a_stopped_yard(self):
        dice = random.Random(198)
        for book in self.books(10, 199):
            rooms = book[0]
            forests = all_forests(rooms)
            for forest in Look(book).least_forms(forests)[:2]:
                for deed in deeds(book, forest)[:1]:
                    code = deed_code(book, forest, deed, 1)
                    for stopped in list(cuts(rooms, new_yard(rooms, forest), code))[::6]:
                        x = dice.randrange(len(rooms))
                        touched = (hung(rooms, stopped[0], x, None),) + stopped[1:]
                        for yard in (touched, (dice.choice(forests),) + stopped[1:]):
                            rest = healed(book, yard)
                            self.assertIs(least_right(book, rest[0]), True)
                            self.assertEqual(opening_code(rooms, rest), ())
                            self.assertEqual(rest[2].count("\n"), len(rest[2].split("\n")) - 1)
