import itertools
import random

from helper import Case, Look, all_forests, either, some_books
from test_journal import some_journal
from nestsay.crane import deed_code, hang_code, lay, lay_code, walk_code
from nestsay.errors import (BadBook, BadForest, BadJournal, BadNumber, BadThing, BadWalk, BadYard, Barred, Elsewhere,
                            Hooked, NotLeast, OnFloor, Pending, Torn, Touched)
from nestsay.forests import hung
from nestsay.journal import base_only, base_text, lay_text, read_journal, shut_text
from nestsay.leastforms import least_right
from nestsay.machine import cut, is_yard, new_yard, off, run
from nestsay.mending import mended
from nestsay.opening import done, healed, healing_code, opened, opening_code, pace, rest_code, tidied
from nestsay.solver import barred

ROOMS = (1, 1)
BOOK = (ROOMS, (either(0, 1, ROOMS),))
BASE = "0 base - 0.0\n"
NEW = ((None, (0, 0)), None, BASE)
OPEN = BASE + "1 open 1:- 0:1.0\n"
CODE = (("write", "1 open 1:- 0:1.0\n"), ("lift", 1), ("lower", None), ("lift", 0), ("lower", (1, 0)),
        ("write", "2 shut\n"))
STOPPED = ((None, None), None, OPEN)
BEHIND = (((1, 0), None), None, OPEN + "2 shut\n")
HELD = ((1, 1, 1), ((0, 2, (("around", 0),)), (1, 2, (("around", 0),))))
TOUCHED = ((None, (0, 0), None), None, "0 base - 0.0 1.0\n")
BARRED = (ROOMS, ((0, 1, ()),))


def pace_told(rooms, yard):
    """The pace, by the words of the document."""
    many, told, pending, _ = read_journal(rooms, yard[2])
    if pending is None:
        return 0 if yard[0] == told else None
    if pending[0] == "lay":
        return 0
    fits = []
    for k in range(len(pending[1]) + 1):
        at = told
        for x, place in pending[1][:k]:
            at = hung(rooms, at, x, place)
        near = [at] + [hung(rooms, at, x, None) for x, _ in pending[1][k:k + 1]]
        fits += [k] if yard[0] in near else []
    return max(fits, default=None)


def opening_told(rooms, yard):
    many, _, pending, torn = read_journal(rooms, yard[2])
    code = (("trim",),) if torn else ()
    if pending is not None:
        left = pending[1][pace_told(rooms, yard):] if pending[0] == "open" else lay(rooms, yard[0], pending[1])
        code += hang_code(left) + (("write", shut_text(many)),)
    return code


def some_yards(rooms, dice, many):
    """Yards of any forest, each with a journal that may tell another one, and some that their journal fits."""
    forests = all_forests(rooms)
    for _ in range(many):
        journal = some_journal(rooms, forests, dice, dice.randrange(1, 7))
        told, pending = read_journal(rooms, journal)[1:3]
        near = [dice.choice(forests), told]
        for x, place in pending[1] if pending and pending[0] == "open" else ():
            near += [hung(rooms, told, x, None), hung(rooms, told, x, place)]
            told = near[-1]
        forest = dice.choice(near)
        hook = dice.choice([None] + [x for x in range(len(rooms)) if forest[x] is None])
        yield forest, hook, journal + dice.choice(("", "", "5", "1 sh", " "))


class Pace(Case):

    def test_example(self):
        self.assertEqual(deed_code(BOOK, NEW[0], ("turn", 1, 0), 1), CODE)
        self.assertEqual(cut(ROOMS, NEW, CODE, 2, 0), STOPPED)
        self.assertEqual(pace(ROOMS, STOPPED), 1)
        self.assertEqual(pace(yard=STOPPED, rooms=ROOMS), 1)

    def test_each_cut_of_a_deed(self):
        self.assertEqual([pace(ROOMS, cut(ROOMS, NEW, CODE, rows, 0)) for rows in range(7)], [0, 0, 1, 1, 1, 2, 0])

    def test_nothing_is_pending(self):
        self.assertEqual(pace(ROOMS, NEW), 0)
        self.assertEqual(pace((), ((), None, "0 base\n")), 0)
        for forest in all_forests(ROOMS):
            self.assertEqual(pace(ROOMS, (forest, None, BASE)), 0 if forest == NEW[0] else None)
            self.assertEqual(pace(ROOMS, (forest, None, OPEN + "2 shut\n3")), 0 if forest == BEHIND[0] else None)

    def test_a_lay_row_is_pending(self):
        for forest in all_forests(ROOMS):
            self.assertEqual(pace(ROOMS, (forest, None, BASE + "1 lay 1.0 -\n")), 0)

    def test_what_hangs_is_on_the_floor(self):
        self.assertEqual(pace(ROOMS, ((None, None), 1, OPEN)), 1)
        self.assertEqual(pace(ROOMS, ((None, None), 1, BASE)), None)

    def test_touched(self):
        rooms = (1, 1, 1)
        base = "0 base - 0.0 1.0\n"
        for forest in all_forests(rooms):
            told = pace(rooms, (forest, None, base + "1 open 2:0.0 1:2.0\n"))
            fits = {(None, (0, 0), (1, 0)): 0, (None, (0, 0), None): 0, (None, (0, 0), (0, 0)): 1,
                    (None, None, (0, 0)): 1, (None, (2, 0), (0, 0)): 2}
            self.assertEqual(told, fits.get(forest))

    def test_some_yards(self):
        dice = random.Random(181)
        for rooms in ((1, 1), (2, 1, 0), (1, 1, 1)):
            for yard in some_yards(rooms, dice, 300):
                self.assertEqual(pace(rooms, yard), pace_told(rooms, yard))


class Opening(Case):

    def test_examples(self):
        code = (("lift", 0), ("lower", (1, 0)), ("write", "2 shut\n"))
        self.assertEqual(opening_code(ROOMS, STOPPED), code)
        self.assertEqual(opening_code(yard=STOPPED, rooms=ROOMS), code)
        self.assertEqual(opened(ROOMS, STOPPED), BEHIND)
        self.assertEqual(opened(yard=STOPPED, rooms=ROOMS), BEHIND)
        torn = cut(ROOMS, NEW, CODE, 0, 4)
        self.assertEqual(torn[2], "0 base - 0.0\n1 op")
        self.assertEqual(opening_code(ROOMS, torn), (("trim",),))
        self.assertEqual(opened(ROOMS, torn), NEW)

    def test_a_yard_at_rest(self):
        for rooms, yard in ((ROOMS, NEW), (ROOMS, BEHIND), ((), ((), None, "0 base\n"))):
            self.assertEqual(opening_code(rooms, yard), ())
            self.assertEqual(opened(rooms, yard), yard)

    def test_what_hangs_is_lowered_by_the_cut(self):
        yard = ((None, None), 1, OPEN + "2 s")
        self.assertEqual(opening_code(ROOMS, yard), (("trim",), ("lift", 0), ("lower", (1, 0)), ("write", "2 shut\n")))
        self.assertEqual(opened(ROOMS, yard), BEHIND)
        self.assertEqual(opened(ROOMS, ((None, (0, 0)), 0, BASE)), NEW)

    def test_a_lay_row(self):
        journal = BASE + "1 lay 1.0 -\n"
        for forest in all_forests(ROOMS):
            code = hang_code(lay(ROOMS, forest, ((1, 0), None))) + (("write", "2 shut\n"),)
            self.assertEqual(opening_code(ROOMS, (forest, None, journal)), code)
            self.assertEqual(opened(ROOMS, (forest, None, journal)), (((1, 0), None), None, journal + "2 shut\n"))
        self.assertEqual(opening_code((), ((), None, "0 base\n1 lay\n")), (("write", "2 shut\n"),))
        self.assertEqual(opening_code((), ((), None, "0 base\n1 lay\n2")), (("trim",), ("write", "2 shut\n")))

    def test_touched(self):
        self.refused(Touched, 1, opening_code, (1, 1, 1), TOUCHED)
        self.refused(Touched, 1, opened, (1, 1, 1), TOUCHED)
        self.refused(Touched, 3, opened, ROOMS, ((None, None), None, OPEN + "2 shut\n3"))
        self.refused(Touched, 2, opening_code, (1, 1, 1), ((None, None, None), None, "0 base - 0.0 1.0\n1 open 2:-\n"))

    def test_some_yards(self):
        dice = random.Random(182)
        for rooms in ((1, 1), (2, 1, 0), (1, 1, 1)):
            for yard in some_yards(rooms, dice, 300):
                if pace_told(rooms, yard) is None:
                    many = read_journal(rooms, yard[2])[0]
                    self.refused(Touched, many, opening_code, rooms, yard)
                    self.refused(Touched, many, opened, rooms, yard)
                else:
                    self.check(rooms, yard)

    def check(self, rooms, yard):
        code = opening_code(rooms, yard)
        self.assertEqual(code, opening_told(rooms, yard))
        rest = opened(rooms, yard)
        self.assertEqual(rest, run(rooms, off(yard), code))
        self.assertEqual(opening_code(rooms, rest), ())
        self.assertEqual(read_journal(rooms, rest[2])[1:], (rest[0], None, ""))

    def test_errors_and_their_order(self):
        for function in (pace, opening_code, opened, tidied, done):
            self.asks_rooms(function, None)
            self.refused(BadYard, -1, function, ROOMS, None)
            self.refused(BadForest, 1, function, ROOMS, ((None, (0, 1)), 7, None))
            self.refused(BadYard, 1, function, ROOMS, ((None, (0, 0)), 1, None))
            self.refused(BadYard, 2, function, ROOMS, ((None, (0, 0)), 0, None))
            self.refused(BadJournal, 0, function, ROOMS, ((None, (0, 0)), 0, ""))
            self.refused(BadJournal, 1, function, ROOMS, ((None, None), 0, BASE + "1 shut\n2"))


class Healing(Case):

    def test_example(self):
        code = (("write", "1 lay - 0.0 1.0\n"), ("lift", 2), ("lower", (1, 0)), ("write", "2 shut\n"))
        self.assertEqual(mended(HELD, TOUCHED[0]), (None, (0, 0), (1, 0)))
        self.assertEqual(healing_code(HELD, TOUCHED), code)
        self.assertEqual(healing_code(yard=TOUCHED, book=HELD), code)
        behind = ((None, (0, 0), (1, 0)), None, TOUCHED[2] + "1 lay - 0.0 1.0\n2 shut\n")
        self.assertEqual(healed(HELD, TOUCHED), behind)
        self.assertEqual(healed(yard=TOUCHED, book=HELD), behind)

    def test_a_yard_at_rest_with_a_least_form(self):
        self.assertEqual(healing_code(BOOK, NEW), ())
        self.assertEqual(healed(BOOK, NEW), NEW)
        self.assertEqual(healing_code(BOOK, (NEW[0], 0, BASE + "1 op")), (("trim",),))
        self.assertEqual(healed(BOOK, (NEW[0], 0, BASE + "1 op")), NEW)
        self.assertEqual(healing_code(((), ()), ((), None, "0 base\n")), ())

    def test_a_form_that_is_not_least(self):
        self.assertEqual(healing_code((ROOMS, ()), NEW), (("write", "1 lay - -\n"), ("lift", 1), ("lower", None),
                                                          ("write", "2 shut\n")))

    def test_something_is_pending(self):
        for yard in ((NEW[0], None, OPEN), (NEW[0], None, BASE + "1 lay 1.0 -\n"), (NEW[0], None, BASE + "1 lay - 0.0\n")):
            self.assertEqual(healing_code(BOOK, yard), (("write", "2 lay - 0.0\n"), ("write", "3 shut\n")))
            self.assertEqual(healed(BOOK, yard), (NEW[0], None, yard[2] + "2 lay - 0.0\n3 shut\n"))
        empty = ((), None, "0 base\n1 lay\n2 sh")
        self.assertEqual(healing_code(((), ()), empty), (("trim",), ("write", "2 lay\n"), ("write", "3 shut\n")))

    def test_touched_but_a_least_form(self):
        yard = (((1, 0), None), None, BASE + "x")
        self.assertEqual(healing_code(BOOK, yard), (("trim",), ("write", "1 lay 1.0 -\n"), ("write", "2 shut\n")))
        self.assertEqual(healed(BOOK, yard), (((1, 0), None), None, BASE + "1 lay 1.0 -\n2 shut\n"))

    def test_some_yards(self):
        dice = random.Random(183)
        for rooms in ((1, 1), (2, 1, 0), (1, 1, 1)):
            books = list(some_books(rooms, 30, 184))
            for book, yard in zip(itertools.cycle(books), some_yards(rooms, dice, 300)):
                if barred(book) is None:
                    self.check(book, yard)
                else:
                    self.refused(Barred, barred(book), healing_code, book, yard)
                    self.refused(Barred, barred(book), healed, book, yard)

    def check(self, book, yard):
        rooms = book[0]
        many, _, pending, torn = read_journal(rooms, yard[2])
        target = mended(book, yard[0])
        code = (("trim",),) if torn else ()
        if pending or pace_told(rooms, yard) is None or target != yard[0]:
            code += (("write", lay_text(many, target)),) + hang_code(lay(rooms, yard[0], target))
            code += (("write", shut_text(many + 1)),)
        self.assertEqual(healing_code(book, yard), code)
        rest = healed(book, yard)
        self.assertEqual(rest, run(rooms, off(yard), code))
        self.assertIs(least_right(book, rest[0]), True)
        self.assertEqual(opening_code(rooms, rest), ())
        self.assertEqual(healing_code(book, rest), ())

    def test_errors_and_their_order(self):
        for function in (healing_code, healed):
            self.asks_book(function, None)
            self.refused(BadBook, -1, function, (ROOMS, None), None)
            self.refused(BadYard, -1, function, BARRED, None)
            self.refused(BadForest, -1, function, BARRED, ((None,), 7, None))
            self.refused(BadYard, 1, function, BARRED, ((None, None), 7, None))
            self.refused(BadYard, 2, function, BARRED, ((None, None), 1, None))
            self.refused(BadJournal, 0, function, BARRED, ((None, None), None, ""))
            self.refused(BadJournal, 0, function, BARRED, ((None, None), None, "0 base - 0.1\n"))
            self.refused(Barred, (0, 1), function, BARRED, NEW)
            self.refused(Barred, (0, 1), function, BARRED, ((None, None), None, BASE + "1"))


class Tidying(Case):

    def test_tidied(self):
        self.assertEqual(tidied(ROOMS, NEW), NEW)
        self.assertEqual(tidied(ROOMS, BEHIND), (((1, 0), None), None, "0 base 1.0 -\n"))
        self.assertEqual(tidied(yard=BEHIND, rooms=ROOMS)[2], base_only(ROOMS, BEHIND[2]))
        self.assertEqual(tidied((), ((), None, "0 base\n1 lay\n2 shut\n")), ((), None, "0 base\n"))

    def test_errors_and_their_order(self):
        self.refused(Hooked, 0, tidied, ROOMS, ((None, None), 0, OPEN + "2"))
        self.refused(Hooked, 0, tidied, ROOMS, ((None, (0, 0)), 0, BASE))
        self.refused(Touched, 1, tidied, ROOMS, ((None, None), None, BASE + "1"))
        self.refused(Touched, 2, tidied, ROOMS, (((1, 0), None), None, BASE + "1 open 1:-\n2"))
        self.refused(Pending, 2, tidied, ROOMS, ((None, None), None, OPEN + "2"))
        self.refused(Pending, 2, tidied, ROOMS, ((None, None), None, BASE + "1 lay - -\n"))
        self.refused(Torn, 1, tidied, ROOMS, (NEW[0], None, BASE + "1"))
        self.refused(Torn, 3, tidied, ROOMS, (BEHIND[0], None, BEHIND[2] + " "))

    def test_done(self):
        self.assertEqual(done(ROOMS, NEW), 0)
        self.assertEqual(done(yard=BEHIND, rooms=ROOMS), 1)
        self.assertEqual(done(ROOMS, STOPPED), 0)
        journal = OPEN + "2 shut\n3 lay - -\n4 lay - 0.0\n5 shut\n6 open 1:-\n7 shut\n8 lay - -\n9 shut"
        for forest, hook in ((NEW[0], None), ((None, None), 1), (((1, 0), None), None)):
            self.assertEqual(done(ROOMS, (forest, hook, journal)), 3)


class GoingOn(Case):
    WALK = (("turn", 1, 0), ("turn", 0, 0), ("turn", 1, 0))

    def test_from_each_stop_at_rest(self):
        whole = walk_code(BOOK, NEW[0], self.WALK, 1)
        for d in range(4):
            at = run(ROOMS, NEW, whole[:6 * d])
            self.assertEqual(rest_code(BOOK, NEW[0], self.WALK, at), whole[6 * d:])
        self.assertEqual(rest_code(yard=NEW, walk=self.WALK, forest=NEW[0], book=BOOK), whole)
        self.assertEqual(rest_code(((), ()), (), (), ((), None, "0 base\n")), ())

    def test_what_hangs_is_on_the_floor(self):
        self.assertEqual(rest_code(BOOK, NEW[0], (), (NEW[0], 0, BASE)), ())
        self.assertEqual(rest_code(BOOK, NEW[0], self.WALK, (NEW[0], 0, BASE)), walk_code(BOOK, NEW[0], self.WALK, 1))
        self.refused(Elsewhere, 0, rest_code, BOOK, NEW[0], self.WALK, ((None, None), 1, BASE))

    def test_more_done_than_the_walk_has(self):
        self.assertEqual(rest_code(BOOK, NEW[0], self.WALK[:1], BEHIND), ())
        self.refused(BadNumber, 1, rest_code, BOOK, NEW[0], (), BEHIND)
        self.refused(BadNumber, 1, rest_code, BOOK, NEW[0], (), ((None, None), None, BEHIND[2]))

    def test_a_yard_elsewhere(self):
        self.refused(Elsewhere, 0, rest_code, BOOK, NEW[0], self.WALK, (((1, 0), None), None, BASE))
        self.refused(Elsewhere, 1, rest_code, BOOK, NEW[0], self.WALK, (NEW[0], None, BEHIND[2]))
        # The journal tells how much is done, not what.
        healed_one = (((1, 0), None), None, BASE + "1 lay - -\n2 lay 1.0 -\n3 shut\n")
        self.assertEqual(rest_code(BOOK, NEW[0], self.WALK, healed_one),
                         walk_code(BOOK, ((1, 0), None), self.WALK[1:], 4))

    def test_errors_and_their_order(self):
        self.asks_book(rest_code, None, None, None)
        self.asks_forest_of_book(rest_code, None, None)
        self.refused(NotLeast, 0, rest_code, BOOK, (None, None), None, None)
        self.refused(BadWalk, -1, rest_code, BOOK, NEW[0], None, None)
        self.refused(OnFloor, 0, rest_code, BOOK, NEW[0], (("turn", 0, 0),), None)
        self.refused(BadThing, 2, rest_code, BOOK, NEW[0], (("turn", 1, 0), ("turn", 2, 0)), None)
        self.refused(BadYard, -1, rest_code, BOOK, NEW[0], self.WALK, None)
        self.refused(BadForest, 1, rest_code, BOOK, NEW[0], self.WALK, ((None, 3), 7, None))
        self.refused(BadYard, 1, rest_code, BOOK, NEW[0], self.WALK, (NEW[0], 1, None))
        self.refused(BadYard, 2, rest_code, BOOK, NEW[0], self.WALK, (NEW[0], 0, None))
        self.refused(BadJournal, 0, rest_code, BOOK, NEW[0], self.WALK, (NEW[0], 0, ""))
        self.refused(Pending, 2, rest_code, BOOK, NEW[0], self.WALK, (NEW[0], None, OPEN + "2"))
        self.refused(Pending, 4, rest_code, BOOK, NEW[0], (), ((None, None), None, BEHIND[2] + "3 lay - -\n4"))
        self.refused(Torn, 3, rest_code, BOOK, NEW[0], (), ((None, None), None, BEHIND[2] + "3"))
        self.refused(BadNumber, 1, rest_code, BOOK, NEW[0], (), ((None, None), None, BEHIND[2]))


class Yards(Case):

    def test_what_is_returned_is_a_yard(self):
        dice = random.Random(185)
        for yard in some_yards((1, 1, 1), dice, 60):
            self.assertIs(is_yard((1, 1, 1), healed(HELD, yard)), True)
        look = Look(HELD)
        for forest in look.least_forms(all_forests(HELD[0])):
            self.assertEqual(tidied(HELD[0], new_yard(HELD[0], forest))[2], base_text(forest))
            for target in all_forests(HELD[0]):
                code = lay_code(HELD[0], forest, target, 1)
                self.assertEqual(healed(HELD, run(HELD[0], new_yard(HELD[0], forest), code))[0], mended(HELD, target))
