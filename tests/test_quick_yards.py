"""Walks of 24 things and journals of 800 rows are answered quickly."""

import random

from helper import Case, stands
from test_quick import THINGS, all_linked, said_of, some_forest
from nestsay.crane import lay, lay_code, walk_code
from nestsay.deeds import after, deeds, hangs
from nestsay.journal import base_only, base_text, lay_text, open_text, read_journal, shut_text
from nestsay.leastforms import least_right
from nestsay.machine import cut, is_yard, made_code, new_yard, run
from nestsay.mending import mended
from nestsay.opening import done, healed, healing_code, opened, opening_code, pace, rest_code, tidied
from nestsay.walks import walk

ROOMS = (4,) * 24
DOWN = (None,) + tuple((x, 0) for x in range(23))
UP = tuple((x + 1, 3) for x in range(23)) + (None,)


def long_journal(dice, rows, kinds):
    """A journal of so many rows, of shut rows and such as they shut, and the forest that it tells."""
    forest = some_forest(ROOMS, dice)
    text = base_text(forest)
    for number in range(1, rows, 2):
        target = some_forest(ROOMS, dice)
        told = lay(ROOMS, forest, target)
        text += open_text(number, told) if dice.choice(kinds) == "open" and told else lay_text(number, target)
        forest = target
        if number + 1 < rows:
            text += shut_text(number + 1)
    return text, forest


class QuickYards(Case):

    def test_the_longest_walk(self):
        book = (ROOMS, all_linked(ROOMS))
        with self.quickly():
            told = walk(book, DOWN, UP)
            self.assertEqual([deed[0] for deed in told], ["turn"] * 276)
            code = walk_code(book, DOWN, told, 1)
            begun = new_yard(ROOMS, DOWN)
            whole = run(ROOMS, begun, code)
            self.assertEqual(whole[0], UP)
            self.assertEqual(done(ROOMS, whole), 276)
        with self.quickly():
            for rows in range(0, len(code), 200):
                rest = opened(ROOMS, cut(ROOMS, begun, code, rows, 0))
                self.assertEqual(run(ROOMS, rest, rest_code(book, DOWN, told, rest)), whole)

    def test_walks_and_deeds_of_books_of_400_sayings(self):
        for seed, lost in ((201, 0.2), (202, 0.5), (203, 0.9)):
            dice = random.Random(seed)
            book = (ROOMS, tuple(said_of(ROOMS, some_forest(ROOMS, dice), dice, lost)))
            with self.quickly():
                one, two = (mended(book, some_forest(ROOMS, dice)) for _ in range(2))
                told = walk(book, one, two)
                behind = run(ROOMS, new_yard(ROOMS, one), walk_code(book, one, told, 1))
                self.assertEqual(behind[0], two)
                self.assertIs(least_right(book, behind[0]), True)
            with self.quickly():
                for deed in deeds(book, one)[::5]:
                    hangs(book, one, deed)
                    self.assertIs(least_right(book, after(book, one, deed)), True)

    def test_journals_of_800_rows(self):
        for seed, kinds in ((204, ("open",)), (205, ("lay",)), (206, ("open", "lay"))):
            dice = random.Random(seed)
            for rows in (799, 800):
                text, forest = long_journal(dice, rows, kinds)
                with self.quickly():
                    self.check_journal(text, forest, rows)

    def check_journal(self, text, forest, rows):
        many, told, pending, torn = read_journal(ROOMS, text + "torn")
        self.assertEqual((many, pending is None, torn), (rows, rows % 2 == 1, "torn"))
        yard = (forest, None, text + "torn")
        self.assertIs(is_yard(ROOMS, yard), True)
        self.assertEqual(done(ROOMS, yard), (rows - 1) // 2)
        self.assertIsNotNone(pace(ROOMS, yard))
        rest = opened(ROOMS, yard)
        self.assertEqual(rest[0], forest)
        self.assertEqual(made_code(ROOMS, opening_code(ROOMS, yard)), opening_code(ROOMS, yard))
        self.assertEqual(tidied(ROOMS, rest), new_yard(ROOMS, forest))
        self.assertEqual(base_only(ROOMS, rest[2]), base_text(forest))

    def test_healing_behind_800_rows(self):
        dice = random.Random(207)
        book = (ROOMS, tuple(said_of(ROOMS, some_forest(ROOMS, dice), dice, 0.5)))
        text, forest = long_journal(dice, 800, ("open", "lay"))
        touched = (some_forest(ROOMS, dice), None, text)
        with self.quickly():
            rest = healed(book, touched)
            self.assertIs(least_right(book, rest[0]), True)
            self.assertEqual(healing_code(book, rest), ())

    def test_laying_any_forest(self):
        dice = random.Random(208)
        with self.quickly():
            for _ in range(50):
                one, two = some_forest(ROOMS, dice), some_forest(ROOMS, dice)
                self.assertEqual(run(ROOMS, new_yard(ROOMS, one), lay_code(ROOMS, one, two, 1))[0], two)

    def test_a_walk_keeps_the_sayings_on_its_way(self):
        dice = random.Random(209)
        book = (ROOMS, tuple(said_of(ROOMS, some_forest(ROOMS, dice), dice, 0.4)))
        with self.quickly():
            at, two = (mended(book, some_forest(ROOMS, dice)) for _ in range(2))
            for deed in walk(book, at, two):
                at = after(book, at, deed)
                self.assertIs(least_right(book, at), True)
            self.assertEqual(at, two)
            self.assertEqual([stands(at, x, 0) for x in THINGS[1:]], [stands(two, x, 0) for x in THINGS[1:]])
