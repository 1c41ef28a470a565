"""The desk by its methods, beside the tests' own desk."""

import random

from helper import APART, Case, all_sayings, all_standings, changed, subsets, world_of
from owndesk import OwnDesk
from test_answers import some_questions
from test_follows import clauses
from test_quick import said_of, some_forest
from nestsay.answers import answer
from nestsay.desk import Desk, desk_of
from nestsay.entrytexts import print_entries
from nestsay.errors import (BadDoors, BadName, BadQuestion, BadRow, BadSaying, NoSaying, NothingToRedo,
                            NothingToUndo, TooMany, Twice)
from nestsay.follows import follows
from nestsay.tight import possible
from nestsay.whose import binding, reasons
from nestsay.worldtexts import print_world, read_world

WORLD = read_world("a r, b r s, c")
INSIDE = (0, 1, (("in", 0), ("in", 1)))
AWAY = (0, 1, (APART,))
ANY = (0, 1, (APART, ("in", 0), ("in", 1), ("around", 0)))
BAD_NAMES = (None, 3, True, "", "A", "1a", "a b", "in", "undo", "barred", "abcdefghijklm", ("ann",), ())
HANDS = ("ann", "bob", "cid", "dot")


def desk_with(*said, world=WORLD):
    """A desk on which hands said sayings: triples."""
    desk = Desk(world)
    for entry in said:
        desk.say(*entry)
    return desk


class Entries(Case):

    def test_a_new_desk(self):
        desk = Desk(world=WORLD)
        self.assertEqual(desk.world(), WORLD)
        self.assertEqual(desk.entries(), ())
        self.assertEqual(desk.book(), ((1, 2, 0), ()))
        self.assertIsNone(desk.whose())
        self.assertEqual(desk.text(), ("a r, b r s, c",))
        self.refused(NothingToUndo, "ann", desk.undo, "ann")
        self.refused(NothingToRedo, "ann", desk.redo, "ann")
        self.refused(NoSaying, "s1", desk.back, "ann", "s1")

    def test_no_things_at_all(self):
        desk = Desk(((), ()))
        self.assertEqual((desk.world(), desk.book(), desk.text()), (((), ()), ((), ()), ("",)))
        desk.thing("ann", "a", ())
        desk.thing("ann", "b", ("r",))
        desk.say("ann", "s1", (0, 1, (("in", 0),)))
        self.assertEqual(desk.text(), ("a, b r", "ann s1: a in b"))

    def test_say_and_back(self):
        desk = Desk(WORLD)
        self.assertIsNone(desk.say(hand="ann", name="s1", saying=INSIDE))
        self.assertIsNone(desk.say("bob", "s1", AWAY))
        self.assertIsNone(desk.say("ann", "s2", ANY))
        entries = (("ann", "s1", INSIDE), ("bob", "s1", AWAY), ("ann", "s2", ANY))
        self.assertEqual(desk.entries(), entries)
        self.assertEqual(desk.book(), ((1, 2, 0), (INSIDE, AWAY, ANY)))
        self.assertIsNone(desk.back(hand="bob", name="s1"))
        self.assertEqual(desk.entries(), (entries[0], entries[2]))
        desk.say("bob", "s1", INSIDE)
        self.assertEqual(desk.entries(), (entries[0], entries[2], ("bob", "s1", INSIDE)))
        desk.back("ann", "s1")
        desk.say("ann", "s1", INSIDE)
        self.assertEqual(desk.entries(), (entries[2], ("bob", "s1", INSIDE), entries[0]))

    def test_a_name_but_once_of_a_hand(self):
        desk = desk_with(("ann", "s1", INSIDE))
        self.refused(Twice, "s1", desk.say, "ann", "s1", AWAY)
        self.assertEqual(desk.entries(), (("ann", "s1", INSIDE),))
        desk.say("s1", "ann", AWAY)
        desk.say("bob", "s1", AWAY)
        self.refused(NoSaying, "s2", desk.back, "ann", "s2")
        self.refused(NoSaying, "s1", desk.back, "cid", "s1")
        desk.back("ann", "s1")
        self.refused(NoSaying, "s1", desk.back, "ann", "s1")
        self.assertEqual(len(desk.entries()), 2)

    def test_things(self):
        desk = desk_with(("ann", "s1", INSIDE))
        self.assertIsNone(desk.thing(hand="bob", name="d", doors=("a", "d", "r", "s")))
        desk.thing("ann", "e", ())
        self.assertEqual(desk.world(), read_world("a r, b r s, c, d a d r s, e"))
        desk.say("bob", "s1", (4, 3, (("in", 3),)))
        self.assertEqual(desk.book(), ((1, 2, 0, 4, 0), (INSIDE, (4, 3, (("in", 3),)))))
        self.assertEqual(desk.where(4, 3), (("in", 3),))
        self.assertEqual(WORLD, read_world("a r, b r s, c"))

    def test_24_things(self):
        desk = Desk(world_of((1,) * 22))
        for name in ("x22", "x23"):
            desk.thing("ann", name, ("r",))
        self.refused(TooMany, 25, desk.thing, "ann", "x24", ())
        self.refused(BadDoors, ("r", "r"), desk.thing, "ann", "x24", ("r", "r"))
        self.refused(Twice, "x23", desk.thing, "ann", "x23", ())
        self.assertEqual(len(desk.world()[0]), 24)

    def test_desks_do_not_share(self):
        one, two = Desk(WORLD), Desk(WORLD)
        one.say("ann", "s1", INSIDE)
        one.thing("ann", "d", ())
        self.assertEqual((two.world(), two.entries()), (WORLD, ()))
        self.refused(NothingToUndo, "ann", two.undo, "ann")

    def test_what_was_told_stays(self):
        desk = desk_with(("ann", "s1", INSIDE))
        world, entries, book, text = desk.world(), desk.entries(), desk.book(), desk.text()
        desk.say("bob", "s1", AWAY)
        desk.thing("bob", "d", ())
        self.assertEqual((world, entries, book), (WORLD, (("ann", "s1", INSIDE),), ((1, 2, 0), (INSIDE,))))
        self.assertEqual(text, ("a r, b r s, c", "ann s1: a in b"))


class UndoAndRedo(Case):

    def test_a_hand_undoes_its_own_alone(self):
        desk = desk_with(("ann", "s1", INSIDE), ("bob", "s1", AWAY), ("ann", "s2", ANY))
        self.assertIsNone(desk.undo(hand="bob"))
        self.assertEqual(desk.entries(), (("ann", "s1", INSIDE), ("ann", "s2", ANY)))
        self.refused(NothingToUndo, "bob", desk.undo, "bob")
        desk.undo("ann")
        desk.undo("ann")
        self.assertEqual(desk.entries(), ())
        self.refused(NothingToUndo, "ann", desk.undo, "ann")
        self.assertIsNone(desk.redo(hand="bob"))
        desk.redo("ann")
        self.assertEqual(desk.entries(), (("ann", "s1", INSIDE), ("bob", "s1", AWAY)))
        desk.redo("ann")
        self.assertEqual(desk.entries(), (("ann", "s1", INSIDE), ("bob", "s1", AWAY), ("ann", "s2", ANY)))
        self.refused(NothingToRedo, "ann", desk.redo, "ann")
        self.refused(NothingToRedo, "bob", desk.redo, "bob")

    def test_an_entry_stands_again_at_its_old_place(self):
        desk = desk_with(("ann", "s1", INSIDE), ("bob", "s1", AWAY))
        desk.back("ann", "s1")
        desk.say("cid", "s1", ANY)
        desk.undo("ann")
        self.assertEqual([entry[0] for entry in desk.entries()], ["ann", "bob", "cid"])
        desk.undo("ann")
        self.assertEqual([entry[0] for entry in desk.entries()], ["bob", "cid"])
        desk.redo("ann")
        self.assertEqual([entry[0] for entry in desk.entries()], ["ann", "bob", "cid"])
        desk.undo("bob")
        desk.say("ann", "s2", ANY)
        desk.redo("bob")
        self.assertEqual([entry[:2] for entry in desk.entries()],
                         [("ann", "s1"), ("bob", "s1"), ("cid", "s1"), ("ann", "s2")])

    def test_said_again_it_is_a_new_entry(self):
        desk = desk_with(("ann", "s1", INSIDE), ("bob", "s1", AWAY))
        desk.back("ann", "s1")
        desk.say("ann", "s1", ANY)
        self.assertEqual(desk.entries(), (("bob", "s1", AWAY), ("ann", "s1", ANY)))
        desk.undo("ann")
        desk.undo("ann")
        self.assertEqual(desk.entries(), (("ann", "s1", INSIDE), ("bob", "s1", AWAY)))
        desk.redo("ann")
        desk.redo("ann")
        self.assertEqual(desk.entries(), (("bob", "s1", AWAY), ("ann", "s1", ANY)))

    def test_a_new_deed_forgets_what_this_hand_alone_could_redo(self):
        for deed in ((lambda desk: desk.say("ann", "s3", ANY)), (lambda desk: desk.back("ann", "s1"))):
            desk = desk_with(("ann", "s1", INSIDE), ("bob", "s1", AWAY), ("ann", "s2", ANY))
            desk.undo("ann")
            desk.undo("bob")
            deed(desk)
            self.refused(NothingToRedo, "ann", desk.redo, "ann")
            desk.redo("bob")
            self.assertIn(("bob", "s1", AWAY), desk.entries())

    def test_a_refused_deed_forgets_nothing(self):
        desk = desk_with(("ann", "s1", INSIDE), ("ann", "s2", ANY))
        desk.undo("ann")
        self.refused(Twice, "s1", desk.say, "ann", "s1", INSIDE)
        self.refused(BadSaying, 0, desk.say, "ann", "s2", None)
        self.refused(NoSaying, "s2", desk.back, "ann", "s2")
        desk.redo("ann")
        self.assertEqual(len(desk.entries()), 2)

    def test_a_thing_is_not_undone(self):
        desk = desk_with(("ann", "s1", INSIDE))
        desk.thing("ann", "d", ())
        desk.undo("ann")
        desk.thing("ann", "e", ())
        self.assertEqual((desk.entries(), len(desk.world()[0])), ((), 5))
        desk.redo("ann")
        self.assertEqual((len(desk.entries()), len(desk.world()[0])), (1, 5))
        self.refused(NothingToRedo, "ann", desk.redo, "ann")
        desk.undo("ann")
        self.refused(NothingToUndo, "ann", desk.undo, "ann")

    def deeds_of_ann(self, many):
        """A desk on which bob said s1, and then ann did so many deeds."""
        desk = desk_with(("bob", "s1", AWAY))
        for at in range(many):
            if at % 3 == 2:
                desk.back("ann", "s" + str(at - 1))
            else:
                desk.say("ann", "s" + str(at), ANY)
        return desk

    def test_100_and_101_deeds_of_a_hand(self):
        for many in (99, 100, 101, 102, 103, 130):
            desk = self.deeds_of_ann(many)
            done, eldest = desk.entries(), self.deeds_of_ann(max(many - 100, 0)).entries()
            self.assertEqual(len(eldest) == 1, many <= 100)
            for word, refusal, left in (("undo", NothingToUndo, eldest), ("redo", NothingToRedo, done)) * 2:
                for _ in range(min(many, 100)):
                    getattr(desk, word)("ann")
                self.refused(refusal, "ann", getattr(desk, word), "ann")
                self.assertEqual(desk.entries(), left)
            desk.undo("bob")
            self.assertEqual(desk.entries(), done[1:])

    def test_400_entries(self):
        desk = desk_with(*[(HANDS[at % 4], "s" + str(at), ANY) for at in range(400)])
        self.refused(TooMany, 401, desk.say, "ann", "new", ANY)
        self.refused(Twice, "s0", desk.say, "ann", "s0", ANY)
        self.refused(BadSaying, 0, desk.say, "ann", "s0", None)
        desk.back("ann", "s0")
        desk.say("bob", "new", ANY)
        before = desk.entries()
        self.refused(TooMany, 401, desk.undo, "ann")
        self.assertEqual(desk.entries(), before)
        desk.undo("bob")
        desk.undo("ann")
        self.assertEqual(desk.entries()[0], ("ann", "s0", ANY))
        self.refused(TooMany, 401, desk.redo, "bob")
        desk.redo("ann")
        desk.redo("bob")
        self.assertEqual(desk.entries(), before)
        self.refused(TooMany, 401, desk.say, "cid", "new", ANY)
        self.refused(NothingToRedo, "cid", desk.redo, "cid")
        desk.undo("cid")
        desk.undo("ann")
        self.assertEqual(len(desk.entries()), 400)
        self.refused(TooMany, 401, desk.redo, "cid")
        self.refused(NothingToUndo, "eve", desk.undo, "eve")


class Errors(Case):

    def check_unchanged(self, desk, error, what, method, *told):
        before = desk.world(), desk.entries()
        self.refused(error, what, method, *told)
        self.assertEqual((desk.world(), desk.entries()), before)

    def test_world(self):
        self.asks_world(Desk)

    def test_names(self):
        desk = desk_with(("ann", "s1", INSIDE))
        for name in BAD_NAMES:
            self.check_unchanged(desk, BadName, name, desk.thing, name, "A", None)
            self.check_unchanged(desk, BadName, name, desk.thing, "ann", name, None)
            self.check_unchanged(desk, BadName, name, desk.say, name, "A", None)
            self.check_unchanged(desk, BadName, name, desk.say, "ann", name, None)
            self.check_unchanged(desk, BadName, name, desk.back, name, "A")
            self.check_unchanged(desk, BadName, name, desk.back, "ann", name)
            self.check_unchanged(desk, BadName, name, desk.undo, name)
            self.check_unchanged(desk, BadName, name, desk.redo, name)

    def test_doors(self):
        desk = Desk(WORLD)
        for doors in (None, 3, "r", ("r", "r"), ("r", None), ("in",), ("A",), ("a", "b", "c", "d", "e"), ((),)):
            self.check_unchanged(desk, BadDoors, doors, desk.thing, "ann", "d", doors)
            self.check_unchanged(desk, Twice, "a", desk.thing, "ann", "a", doors)
        for doors in ((), ("a",), ("d",), ("a", "b", "c", "d")):
            fresh = Desk(WORLD)
            fresh.thing("ann", "d", doors)
            self.assertEqual(fresh.world()[1][3], doors)

    def test_sayings(self):
        desk = desk_with(("ann", "s1", INSIDE))
        for saying in (None, 3, (), (0, 0, ()), (0, 3, ()), (0, 1, (("in", 2),)), (0, 1, (("in", 0), APART)),
                       (0, 1, (("in", True),)), (True, 0, ())):
            self.check_unchanged(desk, BadSaying, 0, desk.say, "ann", "s2", saying)
            self.check_unchanged(desk, BadSaying, 0, desk.say, "ann", "s1", saying)

    def test_questions(self):
        desk = desk_with(("ann", "s1", INSIDE))
        for question in (None, ("sure", ()), ("any", ((INSIDE,),)), "sure a in b"):
            self.check_unchanged(desk, BadQuestion, -1, desk.ask, question)
        self.check_unchanged(desk, TooMany, 9, desk.ask, ("may", ((INSIDE,),) * 9))
        self.check_unchanged(desk, BadQuestion, 1, desk.ask, ("may", ((INSIDE,), ((0, 3, ()),))))
        self.asks_clause(lambda book, clause: desk.whose_for(clause), desk.book())
        self.asks_things(lambda book, x, y: desk.where(x, y), desk.book())


class Questions(Case):

    def check(self, desk, book, entries, dice):
        rooms = book[0]
        for question in some_questions(rooms, 3, dice.random()):
            self.assertEqual(desk.ask(question=question), answer(book, question))
        x, y = dice.sample(range(len(rooms)), 2)
        self.assertEqual(desk.where(x=x, y=y), possible(book, x, y))
        found = binding(book)
        self.assertEqual(desk.whose(), None if found is None else tuple(entries[index] for index in found))
        for clause in clauses(rooms, 3, dice.random()):
            found = reasons(book, clause)
            told = desk.whose_for(clause=clause)
            self.assertEqual(told, None if found is None else tuple(entries[index] for index in found))
            self.assertIs(told is None, not follows(book, clause))

    def test_answers_are_those_of_the_book(self):
        dice = random.Random(741)
        for rooms in ((1, 1), (2, 1, 0), (1, 1, 1), (1, 2, 0, 1)):
            every = [saying for saying in all_sayings(rooms) if APART not in saying[2]]
            for _ in range(25):
                desk = desk_with(world=world_of(rooms))
                said = [(dice.choice(HANDS), "s" + str(at), dice.choice(every)) for at in range(dice.randrange(7))]
                for entry in said:
                    desk.say(*entry)
                self.check(desk, (rooms, tuple(entry[2] for entry in said)), said, dice)

    def test_whose(self):
        desk = desk_with(("ann", "s1", ANY), ("bob", "s1", INSIDE), ("cid", "s1", AWAY), ("dot", "s1", AWAY))
        self.assertEqual(desk.whose(), (("bob", "s1", INSIDE), ("dot", "s1", AWAY)))
        self.assertEqual(desk.whose_for(()), desk.whose())
        desk.back("dot", "s1")
        desk.back("cid", "s1")
        self.assertIsNone(desk.whose())
        self.assertEqual(desk.whose_for(((1, 0, (("around", 0), ("around", 1))),)), (("bob", "s1", INSIDE),))
        self.assertIsNone(desk.whose_for(()))
        self.assertEqual(desk.whose_for((ANY,)), ())

    def test_things_that_are_not_named_change_no_answer(self):
        dice = random.Random(742)
        rooms = (1, 2, 0)
        every = all_sayings(rooms)
        for _ in range(60):
            said = [(dice.choice(HANDS), "s" + str(at), dice.choice(every)) for at in range(dice.randrange(6))]
            one, two = desk_with(*said, world=world_of(rooms)), desk_with(*said, world=world_of(rooms))
            for name in ("new1", "new2", "new3"):
                two.thing("ann", name, ("r", "s")[:dice.randrange(3)])
            self.assertEqual(two.whose(), one.whose())
            self.assertEqual(two.where(0, 1), one.where(0, 1))
            for clause in clauses(rooms, 3, dice.random()):
                self.assertEqual(two.whose_for(clause), one.whose_for(clause))
            for question in some_questions(rooms, 3, dice.random()):
                self.assertEqual(two.ask(question)[0], one.ask(question)[0])


class Texts(Case):

    def test_example(self):
        desk = desk_with(("ann", "s1", (0, 1, (("in", 0),))), world=(("cap", "bag"), ((), ("left", "right"))))
        self.assertEqual(desk.text(), ("cap, bag left right", "ann s1: cap in bag.left"))
        other = desk_of(rows=desk.text())
        self.assertEqual((other.world(), other.entries()), (desk.world(), desk.entries()))
        self.refused(BadRow, (1, 19), desk_of, ("cap, bag left right", "ann s1: cap in bag.top"))

    def test_a_world_alone(self):
        for text, world in (("", ((), ())), ("  ", ((), ())), ("a r", (("a",), (("r",),)))):
            desk = desk_of((text,))
            self.assertEqual((desk.world(), desk.entries(), desk.text()), (world, (), (print_world(world),)))

    def test_no_rows(self):
        for rows in ((), None, 3, "", "a r", True):
            self.refused(BadRow, (-1, 0), desk_of, rows)

    def test_the_first_row(self):
        for text, place in ((None, -1), (7, -1), (("a",), -1), ("a,", 2), ("a, a", 3), ("a r r", 4), ("A", 0), ("a\n", 1),
                            (" " * 20001, 20000), ("a r s t u v", 10), ("in", 0)):
            self.refused(BadRow, (0, place), desk_of, (text,))
            self.refused(BadRow, (0, place), desk_of, (text, None) * 300)

    def test_the_other_rows(self):
        for text, place in ((None, -1), ("", 0), ("ann", 3), ("ann s1", 6), ("ann s1: d in a", 8), ("ann s1: a in a", 13),
                            ("ann s1: a in b.q", 15), ("ann s1: a in b or a in c", 23), ("ann s1: a in b)", 14),
                            ("ann s0: a in b", 4), ("\x1f", 0)):
            self.refused(BadRow, (2, place), desk_of, ("a r, b r s, c", "ann s0: a in b", text, None))
        self.refused(BadRow, (1, 0), desk_of, ("", "in"))

    def test_400_and_401_entries(self):
        rows = ("a r, b r s, c",) + tuple(f"ann s{at}: a in b" for at in range(401))
        desk = desk_of(rows[:401])
        self.assertEqual(desk.text(), rows[:401])
        self.refused(TooMany, 401, desk.say, "bob", "s1", ANY)
        self.refused(TooMany, 401, desk_of, rows)
        self.refused(TooMany, 401, desk_of, rows[:1] + (None,) * 401)
        self.refused(BadRow, (0, 0), desk_of, (";",) + rows)

    def test_no_hand_has_anything_to_undo(self):
        rows = ("a r, b r s, c", "ann s1: a in b", "bob s1: a apart b", "ann s2: c in b.s")
        desk = desk_of(rows)
        for hand in HANDS:
            self.refused(NothingToUndo, hand, desk.undo, hand)
            self.refused(NothingToRedo, hand, desk.redo, hand)
        desk.back("ann", "s1")
        desk.say("bob", "s2", ANY)
        self.assertEqual(desk.text(), rows[:1] + rows[2:] + ("bob s2: a any b",))
        desk.undo("ann")
        desk.undo("bob")
        self.assertEqual(desk.text(), rows)
        self.refused(NothingToUndo, "ann", desk.undo, "ann")
        self.refused(Twice, "s2", desk.say, "ann", "s2", ANY)

    def test_24_things_and_400_entries(self):
        dice = random.Random(751)
        rooms = (4,) * 24
        with self.quickly():
            desk = Desk(world_of(rooms))
            for at in range(400):
                x, y = dice.sample(range(24), 2)
                lets = dice.choice(subsets(all_standings(rooms, x, y)))
                desk.say(dice.choice(HANDS), "s" + str(at), (x, y, lets))
            text = desk.text()
            self.assertEqual(text, (print_world(desk.world()),) + print_entries(desk.world(), desk.entries()))
            other = desk_of(text)
            self.assertEqual((other.world(), other.entries()), (desk.world(), desk.entries()))
            self.assertEqual(other.text(), text)


class WholeRuns(Case):

    def check(self, desk, own):
        self.assertEqual(desk.world(), own.world)
        self.assertEqual(desk.entries(), own.entries())
        self.assertEqual(desk.book(), own.book())

    def some_deed(self, own, dice, sayings):
        word = dice.choice(("say",) * 4 + ("back", "back", "undo", "undo", "redo", "redo", "thing"))
        hand = dice.choice(HANDS[:3]) if dice.random() < 0.98 else dice.choice(BAD_NAMES)
        name = "s" + str(dice.randrange(6)) if dice.random() < 0.98 else dice.choice(BAD_NAMES)
        if word == "thing":
            return word, hand, "x" + str(dice.randrange(400)), ("r", "s")[:dice.randrange(3)]
        if word == "say":
            return word, hand, name, dice.choice(sayings)
        return (word, hand, name) if word == "back" else (word, hand)

    def test_four_hands_and_a_world_that_grows(self):
        dice = random.Random(761)
        for rooms in ((), (1, 1), (2, 1, 0), (1, 1, 1)):
            desk, own = Desk(world_of(rooms)), OwnDesk(world_of(rooms))
            for _ in range(800):
                sayings = all_sayings(tuple(map(len, own.world[1]))[:4]) or [None]
                deed = self.some_deed(own, dice, sayings)
                fault = own.fault(*deed)
                self.as_told(fault, getattr(desk, deed[0]), *deed[1:])
                if not fault:
                    own.do(*deed)
                self.check(desk, own)
                if dice.random() < 0.1:
                    self.assertEqual(desk.whose(), own.whose())

    def test_long_runs_of_one_hand(self):
        dice = random.Random(762)
        desk, own = Desk(WORLD), OwnDesk(WORLD)
        for at in range(1500):
            word = dice.choice(("say", "back", "undo", "redo")) if at % 400 < 250 else ("undo", "redo")[at // 400 % 2]
            told = {"say": ("s" + str(dice.randrange(9)), ANY), "back": ("s" + str(dice.randrange(9)),)}.get(word, ())
            fault = own.fault(word, "ann", *told)
            self.as_told(fault, getattr(desk, word), "ann", *told)
            if not fault:
                own.do(word, "ann", *told)
            self.check(desk, own)

    def test_a_desk_read_back_goes_on(self):
        dice = random.Random(763)
        desk, own = Desk(WORLD), OwnDesk(WORLD)
        for at in range(600):
            if at % 50 == 49:
                desk, own = desk_of(desk.text()), OwnDesk(own.world, own.entries())
            deed = self.some_deed(own, dice, all_sayings((1, 2, 0)))
            fault = own.fault(*deed)
            self.as_told(fault, getattr(desk, deed[0]), *deed[1:])
            if not fault:
                own.do(*deed)
            self.check(desk, own)

    def test_changed_arguments(self):
        own = OwnDesk(WORLD, (("ann", "s1", INSIDE),))
        for word, told in (("say", ("ann", "s2", (0, 1, (APART, ("in", 1))))), ("thing", ("ann", "d", ("r", "s"))),
                           ("back", ("ann", "s1"))):
            for other in changed(told):
                if type(other) is tuple and len(other) == len(told):
                    desk = desk_of(("a r, b r s, c", "ann s1: a in b"))
                    self.as_told(own.fault(word, *other), getattr(desk, word), *other)

    def test_24_things_and_400_entries_that_are_kept(self):
        rooms = (4,) * 24
        dice = random.Random(764)
        desk = Desk(world_of(rooms))
        with self.quickly():
            for at, saying in enumerate(said_of(rooms, some_forest(rooms, dice), dice, 0.5)):
                desk.say(HANDS[at % 4], "s" + str(at), saying)
            self.assertIsNone(desk.whose())
            rows = tuple((saying,) for saying in desk.book()[1][:8])
            self.assertEqual(desk.ask(("sure", rows))[0], "yes")
            self.assertEqual(desk.ask(("may", rows))[:2], ("yes", 0))
            for x in range(1, 24):
                self.assertEqual(desk.where(0, x), possible(desk.book(), 0, x))
