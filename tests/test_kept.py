"""The kept house beside the tests' own one, which keeps each stand whole and walks slowly."""

import itertools
import random

from helper import APART, Case, Ended, Look, all_sayings, all_standings, changed, less, saying_fault, subsets
from test_quick import said_of, some_forest
from nestsay.errors import BadNumber, BadSaying, NothingToRedo, NothingToUndo, TooMany
from nestsay.kept import Kept
from nestsay.solver import barred, form

ROOMS = (1, 1, 1)
EITHER = (("in", 0), ("around", 0))
LINK01 = (0, 1, EITHER)
LINK12 = (1, 2, EITHER)
AWAY02 = (0, 2, (APART,))
ALL_LOOKS = ((0, 1, 2), (1, 2), (2,))


class OwnHouse:

    def __init__(self, rooms):
        self.rooms = rooms
        self.stand = ()
        self.past, self.ahead = [], []
        self.known, self.seen = [], ()

    def do(self, stand, pair):
        """A new deed, which leads to the stand and is about the pair."""
        self.past = (self.past + [(self.stand, stand, pair)])[-100:]
        self.ahead = []
        self.go(stand, pair)

    def say(self, saying):
        self.do(self.stand + (saying,), saying[:2])

    def strike(self, index):
        self.do(self.stand[:index] + self.stand[index + 1:], self.stand[index][:2])

    def undo(self):
        self.ahead.append(self.past.pop())
        self.go(self.ahead[-1][0], self.ahead[-1][2])

    def redo(self):
        self.past.append(self.ahead.pop())
        self.go(self.past[-1][1], self.past[-1][2])

    def go(self, stand, pair):
        self.stand = stand
        self.known = [lot for lot in self.known if not set(pair) <= set(lot)]

    def walk(self):
        look = Look((self.rooms, self.stand))
        met = []
        try:
            meet(look, look.things, met)
        except Ended:
            pass
        self.seen = tuple(lot for lot in met if lot not in self.known)
        self.known += self.seen
        return look.walk(look.things)


def meet(look, lot, met):
    """Put behind those met all lots that the walk meets, up to the first one that has no free thing."""
    for part in look.parts(lot):
        met.append(part)
        found = look.free(part)
        if not found:
            raise Ended(part)
        meet(look, less(part, found[0]), met)


def house_of(rooms, *sayings):
    house = Kept(rooms)
    for saying in sayings:
        house.say(saying)
    return house


class Deeds(Case):

    def test_a_new_house(self):
        house = Kept(rooms=ROOMS)
        self.assertEqual(house.book(), (ROOMS, ()))
        self.assertEqual(house.looks(), ())
        self.refused(NothingToUndo, 0, house.undo)
        self.refused(NothingToRedo, 0, house.redo)
        self.refused(BadNumber, 0, house.strike, 0)
        self.assertEqual(house.form(), (None, None, None))
        self.assertEqual(house.looks(), ((0,), (1,), (2,)))

    def test_no_things(self):
        house = Kept(())
        self.assertEqual((house.form(), house.barred(), house.looks()), ((), None, ()))

    def test_say_and_strike(self):
        house = Kept(ROOMS)
        self.assertIsNone(house.say(saying=LINK01))
        house.say(LINK12)
        house.say(LINK01)
        self.assertEqual(house.book(), (ROOMS, (LINK01, LINK12, LINK01)))
        self.assertIsNone(house.strike(index=1))
        self.assertEqual(house.book(), (ROOMS, (LINK01, LINK01)))
        house.strike(0)
        house.say(AWAY02)
        self.assertEqual(house.book(), (ROOMS, (LINK01, AWAY02)))

    def test_what_was_struck_comes_back_at_its_index(self):
        house = house_of(ROOMS, LINK01, LINK12, AWAY02)
        house.strike(1)
        house.strike(0)
        self.assertIsNone(house.undo())
        self.assertEqual(house.book()[1], (LINK01, AWAY02))
        house.undo()
        self.assertEqual(house.book()[1], (LINK01, LINK12, AWAY02))
        self.assertIsNone(house.redo())
        self.assertEqual(house.book()[1], (LINK01, AWAY02))
        house.redo()
        self.assertEqual(house.book()[1], (AWAY02,))
        self.refused(NothingToRedo, 0, house.redo)
        for _ in range(5):
            house.undo()
        self.assertEqual(house.book()[1], ())
        self.refused(NothingToUndo, 0, house.undo)

    def test_a_new_deed_forgets_what_could_be_redone(self):
        for deed in ((lambda house: house.say(AWAY02)), (lambda house: house.strike(0))):
            house = house_of(ROOMS, LINK01, LINK12)
            house.undo()
            deed(house)
            self.refused(NothingToRedo, 0, house.redo)
            house.undo()
            self.assertEqual(house.book()[1], (LINK01,))

    def test_a_refused_deed_forgets_nothing(self):
        house = house_of(ROOMS, LINK01, LINK12)
        house.undo()
        self.refused(BadSaying, 0, house.say, (0, 0, ()))
        self.refused(BadNumber, 1, house.strike, 1)
        house.redo()
        self.refused(NothingToRedo, 0, house.redo)
        self.assertEqual(house.book()[1], (LINK01, LINK12))

    def house_behind(self, many):
        """A house behind so many deeds."""
        house = Kept(ROOMS)
        for at in range(many):
            if at % 4 == 3:
                house.strike(0)
            else:
                house.say((LINK01, LINK12, AWAY02)[at % 4])
        return house

    def test_100_and_101_deeds(self):
        for many in (99, 100, 101, 102, 103, 104, 150):
            house = self.house_behind(many)
            done, eldest = house.book(), self.house_behind(max(many - 100, 0)).book()
            self.assertEqual(eldest == (ROOMS, ()), many <= 100)
            for deed, refusal, left in ((house.undo, NothingToUndo, eldest), (house.redo, NothingToRedo, done)) * 2:
                for _ in range(min(many, 100)):
                    deed()
                self.refused(refusal, 0, deed)
                self.assertEqual(house.book(), left)

    def test_a_deed_behind_undone_ones_is_counted_anew(self):
        house = house_of(ROOMS, *[LINK01] * 100)
        for _ in range(60):
            house.undo()
        for _ in range(61):
            house.say(LINK12)
        for _ in range(100):
            house.undo()
        self.assertEqual(house.book()[1], (LINK01,))
        self.refused(NothingToUndo, 0, house.undo)

    def test_400_sayings(self):
        house = house_of(ROOMS, *[LINK01] * 400)
        self.refused(BadSaying, 0, house.say, (0, 3, ()))
        self.refused(TooMany, 401, house.say, LINK12)
        self.assertEqual(house.book(), (ROOMS, (LINK01,) * 400))
        house.strike(399)
        house.say(LINK12)
        self.refused(TooMany, 401, house.say, LINK12)
        house.undo()
        house.undo()
        self.assertEqual(house.book(), (ROOMS, (LINK01,) * 400))
        self.refused(TooMany, 401, house.say, LINK12)
        house.redo()
        house.redo()
        self.assertEqual(house.book(), (ROOMS, (LINK01,) * 399 + (LINK12,)))

    def test_houses_do_not_share(self):
        one, two = Kept(ROOMS), Kept(ROOMS)
        one.say(LINK01)
        one.form()
        self.assertEqual((two.book(), two.looks()), ((ROOMS, ()), ()))
        self.refused(NothingToUndo, 0, two.undo)
        two.form()
        self.assertEqual(two.looks(), ((0,), (1,), (2,)))

    def test_a_book_that_was_told_stays(self):
        house = house_of(ROOMS, LINK01)
        book = house.book()
        house.say(LINK12)
        self.assertEqual(book, (ROOMS, (LINK01,)))


class Errors(Case):

    def test_rooms(self):
        self.asks_rooms(Kept)

    def test_sayings(self):
        house = house_of((2, 1), (0, 1, (("in", 0), ("around", 1))))
        before = house.book()
        for saying in changed((0, 1, (APART, ("in", 0), ("around", 1)))):
            fault = saying_fault((2, 1), saying)
            if fault:
                self.refused(fault[0], fault[1], house.say, saying)
                self.assertEqual(house.book(), before)
            else:
                house.say(saying)
                self.assertEqual(house.book(), ((2, 1), before[1] + (saying,)))
                house.undo()

    def test_indexes(self):
        house = house_of(ROOMS, LINK01, LINK12)
        for index in (-1, 2, 10 ** 900, None, True, False, "0", (0,), ()):
            self.refused(BadNumber, index, house.strike, index)
        self.assertEqual(house.book()[1], (LINK01, LINK12))


class Looks(Case):

    def test_example(self):
        house = Kept(ROOMS)
        house.say(LINK01)
        house.say(LINK12)
        self.assertEqual(house.looks(), ())
        self.assertEqual(house.form(), (None, (0, 0), (1, 0)))
        self.assertEqual(house.looks(), ALL_LOOKS)
        self.assertEqual(house.looks(), ALL_LOOKS)
        self.assertEqual(house.form(), (None, (0, 0), (1, 0)))
        self.assertEqual(house.looks(), ())
        house.say(AWAY02)
        self.assertEqual(house.form(), ((1, 0), None, (1, 0)))
        self.assertEqual(house.looks(), ((0, 1, 2), (0,)))

    def test_barred_learns_too(self):
        house = house_of(ROOMS, LINK01, LINK12)
        self.assertIsNone(house.barred())
        self.assertEqual(house.looks(), ALL_LOOKS)
        house.form()
        self.assertEqual(house.looks(), ())
        house.say((0, 2, ()))
        house.form()
        self.assertEqual(house.looks(), ((0, 1, 2), (0, 2)))
        self.assertEqual(house.barred(), (0, 2))
        self.assertEqual(house.looks(), ())

    def test_a_deed_changes_no_looks(self):
        house = house_of(ROOMS, LINK01, LINK12)
        house.form()
        for deed in ((lambda: house.say(AWAY02)), (lambda: house.strike(0)), house.undo, house.redo, house.book):
            deed()
            self.assertEqual(house.looks(), ALL_LOOKS)
        self.refused(NothingToRedo, 0, house.redo)
        self.assertEqual(house.looks(), ALL_LOOKS)

    def test_each_deed_forgets_the_lots_that_have_both(self):
        every = all_standings(ROOMS, 1, 2)
        for forget in ((lambda house: house.say((1, 2, tuple(every)))), (lambda house: house.say((2, 1, tuple(every)))),
                       (lambda house: house.strike(2)), (lambda house: house.undo())):
            house = house_of(ROOMS, LINK01, LINK12, (1, 2, tuple(every)))
            house.form()
            self.assertEqual(house.looks(), ALL_LOOKS)
            forget(house)
            house.form()
            self.assertEqual(house.looks(), ((0, 1, 2), (1, 2)))
        house.redo()
        house.form()
        self.assertEqual(house.looks(), ((0, 1, 2), (1, 2)))
        house.say((0, 1, tuple(every)))
        house.form()
        self.assertEqual(house.looks(), ((0, 1, 2),))

    def test_a_refused_deed_forgets_no_lot(self):
        house = house_of(ROOMS, *[LINK01] * 399, LINK12)
        house.form()
        self.refused(TooMany, 401, house.say, LINK12)
        self.refused(BadSaying, 0, house.say, (1, 2, (("in", 1),)))
        self.refused(BadNumber, 400, house.strike, 400)
        self.refused(NothingToRedo, 0, house.redo)
        house.form()
        self.assertEqual(house.looks(), ())

    def test_lots_are_known_across_other_stands(self):
        house = house_of(ROOMS, LINK01, LINK12)
        house.form()
        house.say((0, 1, (APART,)))
        self.assertIsNone(house.form())
        self.assertEqual(house.looks(), ((0, 1, 2), (0, 1)))
        house.undo()
        self.assertEqual(house.form(), (None, (0, 0), (1, 0)))
        self.assertEqual(house.looks(), ((0, 1, 2),))
        house.redo()
        self.assertEqual(house.barred(), (0, 1))
        self.assertEqual(house.looks(), ((0, 1, 2), (0, 1)))


class WholeRuns(Case):

    def run_of(self, rooms, dice, steps, sayings):
        """Deeds and questions by turns, beside the tests' own house and a fresh one."""
        house, own = Kept(rooms), OwnHouse(rooms)
        for _ in range(steps):
            self.one_deed(house, own, dice, sayings)
            book = house.book()
            self.assertEqual(book, (rooms, own.stand))
            if dice.random() < 0.6:
                forest, lot = own.walk()
                if dice.random() < 0.5:
                    self.assertEqual(house.form(), forest)
                else:
                    self.assertEqual(house.barred(), lot)
                self.assertEqual((form(book), barred(book)), (forest, lot))
                fresh = house_of(rooms, *own.stand)
                self.assertEqual((fresh.form(), fresh.barred()), (forest, lot))
            self.assertEqual(house.looks(), own.seen)

    def one_deed(self, house, own, dice, sayings):
        name = dice.choice(("say", "say", "say", "strike", "undo", "redo"))
        if name == "say":
            told = (dice.choice(sayings),)
        elif name == "strike":
            told = (dice.randrange(len(own.stand) + 1),)
        else:
            told = ()
        fault = {"strike": told == (len(own.stand),) and (BadNumber, told[0]),
                 "undo": not own.past and (NothingToUndo, 0), "redo": not own.ahead and (NothingToRedo, 0)}.get(name)
        self.as_told(fault, getattr(house, name), *told)
        if not fault:
            getattr(own, name)(*told)

    def test_small_houses(self):
        dice = random.Random(801)
        for rooms in ((1, 1), (1, 1, 1), (2, 1, 0), (0, 0, 0), (1, 2, 0, 1), (1, 1, 1, 1, 1)):
            every = [saying for saying in all_sayings(rooms) if APART not in saying[2] or dice.random() < 0.2]
            for _ in range(8):
                self.run_of(rooms, dice, 60, dice.sample(every, min(12, len(every))))

    def test_many_deeds(self):
        rooms = (1, 1, 1)
        self.run_of(rooms, random.Random(802), 500, all_sayings(rooms))

    def test_links_alone(self):
        rooms = (2, 1, 1, 2, 1)
        sayings = [(x, y, tuple(all_standings(rooms, x, y)[1:])) for x, y in itertools.permutations(range(5), 2)]
        for seed in range(6):
            self.run_of(rooms, random.Random(803 + seed), 80, sayings)

    def test_things_that_are_not_named(self):
        dice = random.Random(810)
        rooms, more = (1, 2, 0, 1), (1, 2, 0, 1, 3, 0, 4)
        every = [saying for saying in all_sayings(rooms) if APART not in saying[2]]
        for _ in range(60):
            told = [dice.choice(every) for _ in range(dice.randrange(6))]
            one, two = house_of(rooms, *told), house_of(more, *told)
            self.assertEqual(two.barred(), one.barred())
            if one.form() is not None:
                self.assertEqual(two.form(), one.form() + (None,) * 3)

    def test_24_things_and_400_sayings(self):
        rooms = (4,) * 24
        dice = random.Random(811)
        sayings = list(said_of(rooms, some_forest(rooms, dice), dice, 0.5))
        with self.quickly():
            house = house_of(rooms, *sayings)
            self.assertEqual(house.form(), form((rooms, tuple(sayings))))
            many = len(house.looks())
            self.assertGreater(many, 20)
            for at in range(300):
                house.strike(dice.randrange(400))
                house.say(dice.choice(sayings))
                self.assertIsNone(house.barred())
                if at % 10 == 0:
                    self.assertEqual(house.form(), form(house.book()))
            for _ in range(100):
                house.undo()
                self.assertIsNotNone(house.form())
            for _ in range(100):
                house.redo()
                self.assertIsNotNone(house.form())

    def test_24_things_of_which_nothing_can_be_apart(self):
        rooms = (1,) * 24
        links = [(x, y, EITHER) for x, y in itertools.combinations(range(24), 2)]
        with self.quickly():
            house = house_of(rooms, *links)
            self.assertEqual(house.form(), (None,) + tuple((x, 0) for x in range(23)))
            self.assertEqual(house.looks(), tuple(tuple(range(x, 24)) for x in range(24)))
            for x, y, _ in links:
                house.say((y, x, EITHER[:1]))
                self.assertEqual(house.form(), (None,) + tuple((x, 0) for x in range(23)))
                self.assertEqual(house.looks(), tuple(tuple(range(least, 24)) for least in range(x + 1)))
                house.undo()

    def test_each_book_of_a_small_house(self):
        rooms = (1, 1)
        house, own = Kept(rooms), OwnHouse(rooms)
        for one, two in itertools.product(subsets(all_standings(rooms, 0, 1)), repeat=2):
            for saying in ((0, 1, one), (1, 0, two)):
                house.say(saying)
                own.say(saying)
                self.assertEqual((house.form(), house.barred()), own.walk())
            house.strike(0)
            own.strike(0)
            self.assertEqual(house.barred(), own.walk()[1])
            self.assertEqual(house.looks(), own.seen)
            house.undo()
            own.undo()
            house.undo()
            own.undo()
            house.strike(0)
            own.strike(0)
            self.assertEqual(house.form(), own.walk()[0])
            self.assertEqual(house.looks(), own.seen)
