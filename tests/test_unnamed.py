"""Things that no saying names, put in anywhere, change no answer about the others."""

import itertools
import random

from helper import Case, some_books, subsets
from test_follows import clauses
from nestsay.follows import follows
from nestsay.mending import mended
from nestsay.solver import barred, form, keepable
from nestsay.tight import possible
from nestsay.whose import binding, lean, reasons


def moved(saying, names):
    x, y, lets = saying
    return names[x], names[y], lets


class Unnamed(Case):

    def test_small_books(self):
        dice = random.Random(121)
        for rooms, seed in (((1, 1), 122), ((1, 1, 1), 123), ((2, 1, 0), 124), ((1, 2, 0, 1), 125)):
            for book in some_books(rooms, 30, seed):
                for more in (1, 2, 5):
                    many = len(rooms) + more
                    names = dice.choice([lot for lot in subsets(range(many)) if len(lot) == len(rooms)])
                    wide = [dice.randrange(5) for _ in range(many)]
                    for x, name in enumerate(names):
                        wide[name] = rooms[x]
                    self.check(book, (tuple(wide), tuple(moved(saying, names) for saying in book[1])), names)

    def check(self, book, wide, names):
        self.assertIs(keepable(wide), keepable(book))
        self.assertEqual(binding(wide), binding(book))
        self.assertEqual(lean(wide), (wide[0], tuple(moved(saying, names) for saying in lean(book)[1])))
        for x, y in itertools.permutations(range(len(names)), 2):
            self.assertEqual(possible(wide, names[x], names[y]), possible(book, x, y))
        for clause in clauses(book[0], 3, 126):
            other = tuple(moved(saying, names) for saying in clause)
            self.assertIs(follows(wide, other), follows(book, clause))
            self.assertEqual(reasons(wide, other), reasons(book, clause))
        self.check_forms(book, wide, names)

    def check_forms(self, book, wide, names):
        told = form(wide)
        if told is None:
            self.assertEqual(barred(wide), tuple(names[x] for x in barred(book)))
            return
        for x, place in enumerate(form(book)):
            self.assertEqual(told[names[x]], None if place is None else (names[place[0]], place[1]))
        self.assertEqual([told[x] for x in range(len(told)) if x not in names], [None] * (len(told) - len(names)))
        self.assertEqual(mended(wide, told), told)
