"""The rows of the desk: examples, refusals and their places, each row beside its method, whole runs."""

import itertools
import random

from helper import APART, Case, all_sayings, all_standings, subsets, world_of
from owndesk import OwnDesk
from test_answers import some_questions
from test_desk import HANDS, INSIDE, WORLD
from test_quick import PAIRS, said_of, some_forest
from nestsay.answertexts import print_answer, read_answer
from nestsay.desk import Desk, desk_of
from nestsay.foresttexts import print_forest
from nestsay.papers import no_paper
from nestsay.papertexts import print_paper
from nestsay.questiontexts import print_question
from nestsay.sayingtexts import print_saying
from nestsay.solver import form
from textlook import RESERVED, WORDS, mutants

SMALL = (("a", "b"), (("r",), ("r",)))
# The rows of every kind, each let on the desk that `two_desks` makes.
ROWS = (
    "ann: thing d r s", "ann: thing d", "bob: say s2 a in b.s or not b with a", "ann: back s1", "ann: undo",
    "bob: redo", "cid: sure a in b | b in a & a apart b", "cid: may a in b & b in a | c in a", "cid: where b c",
    "cid: whose", "cid: form", "cid: book",
)


def told(*rows, world=WORLD):
    """A desk on which these rows were done."""
    desk = Desk(world)
    for row in rows:
        desk.row(row)
    return desk


def two_desks():
    """A desk, and the tests' own one, on which ann can undo and bob can redo."""
    first = ("ann s1: a in b", "bob s1: a apart b or a in b.s")
    desk, own = desk_of(("a r, b r s, c",) + first), OwnDesk(WORLD)
    own = OwnDesk(WORLD, desk.entries())
    for row in ("ann: say s3 c in b.r", "bob: back s1", "bob: undo"):
        desk.row(row)
        own.row(row)
    return desk, own


class Examples(Case):

    def check(self, desk, *pairs):
        for row, answer in pairs:
            self.assertEqual(desk.row(row), answer)

    def test_one_behind_the_other(self):
        self.check(
            Desk(SMALL),
            ("ann: say s1 a with b", "ok"),
            ("bob: sure a in b | b in a", "yes: barred a, b: a {b} b; b {a} a"),
            ("bob: sure a in b", "no 0: a[b[]]"),
            ("bob: say s1 a apart b", "ok, not kept: ann s1, bob s1"),
            ("bob: back s2", "refused: NoSaying 10"))

    def test_one_saying_alone(self):
        self.check(
            told("ann: say s1 a with b", world=SMALL),
            ("ann: where b a", "b in a or b around a"),
            ("bob: whose", "none"),
            ("bob: book", "ann s1: a in b or a around b"),
            ("bob: thing c", "ok"),
            ("bob: form", "form a[b[]] c"),
            ("bob: thing d e e", "refused: Twice 15"),
            ("bob: undo", "refused: NothingToUndo 5"))

    def test_the_text_by_name(self):
        self.assertEqual(Desk(WORLD).row(text="ann: whose"), "none")

    def test_a_desk_that_cannot_be_kept(self):
        self.check(
            told("ann: say s1 a with b", "bob: say s1 a apart b", world=SMALL),
            ("cid: whose", "ann s1, bob s1"),
            ("cid: form", "barred a, b: a {b} b; b {a} a"),
            ("cid: where a b", "a never b"),
            ("cid: sure a never b", "yes: barred a, b: a {b} b; b {a} a"),
            ("cid: may a any b", "no: barred a, b: a {b} b; b {a} a"),
            ("cid: book", "ann s1: a in b or a around b ; bob s1: a apart b"),
            ("cid: thing c", "ok, not kept: ann s1, bob s1"),
            ("cid: say s1 c any a", "ok, not kept: ann s1, bob s1"),
            ("ann: undo", "ok"),
            ("ann: redo", "ok, not kept: ann s1, bob s1"),
            ("bob: back s1", "ok"),
            ("bob: undo", "ok, not kept: ann s1, bob s1"))

    def test_no_things_and_no_entries(self):
        self.check(
            Desk(((), ())),
            ("ann: form", "form"),
            ("ann: book", "empty"),
            ("ann: whose", "none"),
            ("ann: where a a", "refused: NoThing 11"),
            ("ann: sure a any b", "refused: NoThing 10"),
            ("ann: thing a a b", "ok"),
            ("ann: form", "form a[|]"),
            ("ann: thing b", "ok"),
            ("ann: where a b", "a any b"),
            ("ann: book", "empty"),
            ("ann: say a a around b.b", "ok"),
            ("ann: form", "form a[|b]"),
            ("ann: undo", "ok"),
            ("ann: book", "empty"))

    def test_blanks_mean_nothing(self):
        for row, answer in (("ann:undo", "ok"), ("  ann  :  undo  ", "ok"), ("bob:say s2(a in b.s/r)", "ok"),
                            ("cid:where a b", "a in b.s"), ("cid:may a in b.r|b in a", None)):
            desk = two_desks()[0]
            if answer is None:
                answer = print_answer(WORLD, desk.ask(("may", (((0, 1, (("in", 0),)),), ((1, 0, (("in", 0),)),)))))
            self.assertEqual(desk.row(row), answer)

    def test_hands_and_names_like_those_of_things_and_rooms(self):
        self.check(
            Desk(WORLD),
            ("a: say a a in b", "ok"),
            ("b: say r b around a.s", "ok"),
            ("yes: say no a any c", "ok"),
            ("abcdefghijkl: say abcdefghijkl b any c", "ok"),
            ("a: book", "a a: a in b ; b r: b around a.s ; yes no: a any c ; abcdefghijkl abcdefghijkl: b any c"))


class Refusals(Case):

    def check(self, row, answer, *ahead):
        """The row is refused as told, and changes nothing; ahead of it stand other rows."""
        desk, own = two_desks()
        for other in ahead:
            self.assertEqual(desk.row(other), own.row(other))
        self.assertEqual(desk.row(row), "refused: " + answer)
        self.assertEqual(own.row(row), "refused: " + answer)
        self.alike(desk, own)

    def alike(self, desk, own):
        """What both tell, and what each hand can undo and redo, is the same."""
        self.assertEqual((desk.world(), desk.entries()), (own.world, own.entries()))
        for hand, word in itertools.product(HANDS, ("undo", "redo")):
            answer = "ok"
            while not answer.startswith("refused"):
                answer = own.row(hand + ": " + word)
                self.assertEqual(desk.row(hand + ": " + word), answer)
            self.assertEqual((desk.world(), desk.entries()), (own.world, own.entries()))

    def test_no_text(self):
        for text in (None, 3, True, (), ("ann: undo",), b"ann: undo", ["ann: undo"]):
            self.check(text, "BadText -1")

    def test_signs(self):
        for code in (0, 9, 10, 31, 37, 127, 128, 960):
            self.check(chr(code) + "in", "BadText 0")
            self.check("in: undo" + chr(code), "BadText 8")
        self.check("ann: undo" + " " * 19992, "BadText 20000")
        self.check("in" + " " * 19999, "BadText 20000")
        self.check("in" + " " * 19998, "BadText 0")

    def test_the_first_words(self):
        for word in WORDS + ["s"]:
            if word not in ("zz", "yes", "no", "abcdefghijkl", "s"):
                self.check(word + ": undo", "BadText 0")
            if word != ":":
                self.check("ann " + word + " undo", "BadText 4")
            if word not in "thing say back undo redo sure may where whose form book".split():
                self.check("ann: " + word + " s1", "BadText 5")
        for text in ("", "  ", "ann", "ann:", "ann: ", "ann: thing", "ann: say", "ann: say s2 ", "ann: back",
                     "ann: where", "ann: where a", "ann: sure", "ann: may a in b |", "ann: say s2 (a in b"):
            self.check(text, "BadText " + str(len(text)))

    def test_words_that_are_too_many(self):
        for row in ("ann: thing d r s t u", "ann: back s1", "ann: undo", "ann: redo", "ann: sure a in b",
                    "ann: may a in b", "ann: where a b", "ann: whose", "ann: form", "ann: book", "ann: say s2 a in b"):
            for word in ("ann", "undo", ":", "7", "A", "in"):
                self.check(row + " " + word, "BadText " + str(len(row) + 1))

    def test_names(self):
        for word in RESERVED + ["1", "A", "abcdefghijklm", ":"]:
            for row in ("ann: thing ", "ann: say ", "ann: back ", "ann: where ", "ann: where a ", "ann: thing d ",
                        "ann: thing d r s t "):
                self.check(row + word, "BadText " + str(len(row)))
        for row, place in (("ann: where d a", 11), ("ann: where a d", 13), ("ann: where r a", 11),
                           ("ann: sure d in", 10), ("ann: say s2 a in d", 17), ("ann: may a in b & d", 18)):
            self.check(row, "NoThing " + str(place))
        self.check("ann: where a a", "SameThing 13")
        self.check("ann: where a a b", "SameThing 13")
        self.check("ann: where d d", "NoThing 11")

    def test_rooms_of_a_new_thing(self):
        for row, place in (("ann: thing d r r", 15), ("ann: thing d r s t r", 19), ("ann: thing d r s s A", 17),
                           ("ann: thing a r r", 15)):
            self.check(row, "Twice " + str(place))
        self.check("ann: thing d r s t u r", "BadText 21")
        self.check("ann: thing d r s t A", "BadText 19")

    def test_what_sayings_are_refused_for(self):
        for text, answer in (("a in a", "SameThing {}"), ("a in b.t", "NoRoom {}"), ("a in b or c", "OtherPair {}"),
                             ("zz", "NoThing {}"), ("a in in", "BadText {}"), ("a in b or a around b.s", "NoRoom {}")):
            place = max(text.rfind(" "), text.rfind(".")) + 1
            for ahead in ("ann: say s2 ", "ann: say s1 ", "ann: sure ", "ann: may a any c | ",
                          "ann: sure a apart c & "):
                self.check(ahead + text, answer.format(len(ahead) + place))

    def test_counts_begin_anew_with_each_saying_of_a_row(self):
        text = "(" * 20 + " and ".join(["a in b"] * 40) + ")" * 20
        desk, own = two_desks()
        for ahead in ("ann: say s2 ", "ann: sure a any b | ", "ann: may " + text + " & "):
            self.assertEqual(desk.row(ahead + text), own.row(ahead + text))
            desk, own = two_desks()
            self.assertEqual(desk.row(ahead + text)[:7] == "refused", False)
            self.check(ahead + "(" + text, "BadText " + str(len(ahead) + 20))
            self.check(ahead + text[:-20] + " or c", "BadText " + str(len(ahead + text) - 16))

    def test_what_is_asked_behind_all_words(self):
        self.check("ann: thing a", "Twice 11")
        self.check("ann: thing c r s", "Twice 11")
        self.check("ann: thing a in", "BadText 13")
        self.check("ann: say s1 a in b", "Twice 9")
        self.check("bob: say s1 a in b", "Twice 9")
        self.check("ann: say s1 a in b)", "BadText 18")
        self.check("ann: say s1 a in d", "NoThing 17")
        self.check("ann: back s2", "NoSaying 10")
        self.check("cid: back s1", "NoSaying 10")
        self.check("cid: back s1 s1", "BadText 13")
        self.check("cid: undo", "NothingToUndo 5")
        self.check(" cid :  undo ", "NothingToUndo 8")
        self.check("ann: redo", "NothingToRedo 5")
        self.check("ann :redo", "NothingToRedo 5")
        self.check("cid: undo undo", "BadText 10")
        self.check("cid: redo 7", "BadText 10")

    def test_an_entry_that_was_taken_back_or_undone(self):
        self.check("ann: back s3", "NoSaying 10", "ann: undo")
        self.check("ann: back s1", "NoSaying 10", "ann: back s1")
        self.check("ann: redo", "NothingToRedo 5", "ann: undo", "ann: say s3 a any b")
        self.check("ann: redo", "NothingToRedo 5", "ann: undo", "ann: back s1")
        self.check("ann: say s3 a any b", "Twice 9", "ann: undo", "ann: redo")

    def test_a_25th_thing(self):
        desk = Desk(world_of((1,) * 23))
        self.assertEqual(desk.row("ann: thing x24 r"), "ok")
        for row, answer in (("ann: thing x25", "TooMany 5"), ("ann:thing x25 r", "TooMany 4"),
                            ("ann: thing x24", "Twice 11"), ("ann: thing x25 r r", "Twice 17"), ("ann: thing x25 1", "BadText 15")):
            self.assertEqual(desk.row(row), "refused: " + answer)
        self.assertEqual(len(desk.world()[0]), 24)

    def test_400_and_401_entries(self):
        desk = desk_of(("a r, b r s, c",) + tuple(f"dot s{at}: a in b" for at in range(399)))
        self.assertEqual(desk.row("ann: say s1 a any b"), "ok")
        before = desk.entries()
        for row, answer in (("ann: say s2 a any b", "TooMany 5"), ("  ann: say s2 a any b", "TooMany 7"),
                            ("dot: say s0 a any b", "Twice 9"), ("ann: say s2 a any d", "NoThing 18"),
                            ("ann: redo", "NothingToRedo 5"), ("bob: undo", "NothingToUndo 5")):
            self.assertEqual(desk.row(row), "refused: " + answer)
            self.assertEqual(desk.entries(), before)
        self.assertEqual(desk.row("dot: back s0"), "ok")
        self.assertEqual(desk.row("bob: say s1 a any b"), "ok")
        self.assertEqual(desk.row("dot: undo"), "refused: TooMany 5")
        self.assertEqual(desk.row("dot:undo"), "refused: TooMany 4")
        self.assertEqual(desk.row("bob: undo"), "ok")
        self.assertEqual(desk.row("dot: undo"), "ok")
        self.assertEqual(desk.entries(), before)
        self.assertEqual(desk.row("bob: redo"), "refused: TooMany 5")
        self.assertEqual(desk.row("dot: redo"), "ok")
        self.assertEqual(desk.row("bob: redo"), "ok")

    def test_101_deeds_of_a_hand(self):
        desk = Desk(WORLD)
        for at in range(101):
            self.assertEqual(desk.row(f"ann: say s{at} a any b"), "ok")
        for _ in range(100):
            self.assertEqual(desk.row("ann: undo"), "ok")
        self.assertEqual(desk.row("ann: undo"), "refused: NothingToUndo 5")
        self.assertEqual(desk.row("bob: book"), "ann s0: a any b")
        for _ in range(100):
            self.assertEqual(desk.row("ann: redo"), "ok")
        self.assertEqual(desk.row("ann: redo"), "refused: NothingToRedo 5")

    def test_the_first_wrong_word_at_each_place(self):
        for row in ROWS:
            for mutant in mutants(row, ["a", "b", "c", "r", "s", "s1", "ann"]):
                desk, own = two_desks()
                self.assertEqual(desk.row(mutant), own.row(mutant), mutant)
                self.assertEqual((desk.world(), desk.entries()), (own.world, own.entries()), mutant)

    def test_what_stands_behind_does_not_matter(self):
        for row, answer in (("ann: where a a", "SameThing 13"), ("ann: where a d", "NoThing 13"),
                            ("ann: go d", "BadText 5"), ("ann: thing d r r", "Twice 15"), ("ann: say s1 a in b.t", "NoRoom 19")):
            for more in ("", " ", " in", " A", " {", " abcdefghijklm", ": undo"):
                self.check(row + more, answer)


class BesideMethods(Case):

    def check(self, desk, row):
        self.assertEqual(desk[0].row(row), "ok")
        self.assertEqual((desk[0].world(), desk[0].entries()), (desk[1].world(), desk[1].entries()))

    def test_deeds(self):
        desk = Desk(WORLD), Desk(WORLD)
        desk[1].thing("ann", "d", ("r", "d"))
        self.check(desk, "ann: thing d r d")
        desk[1].say("ann", "s1", (3, 0, (APART, ("around", 1))))
        self.check(desk, "ann: say s1 d apart a or d around a.d")
        desk[1].say("bob", "s1", INSIDE)
        self.check(desk, "bob: say s1 a in b")
        desk[1].back("ann", "s1")
        self.check(desk, "ann: back s1")
        for hand, word in (("bob", "undo"), ("ann", "undo"), ("ann", "undo"), ("ann", "redo"), ("bob", "redo"), ("ann", "redo")):
            getattr(desk[1], word)(hand)
            self.check(desk, hand + ": " + word)

    def test_questions(self):
        dice = random.Random(711)
        for rooms in ((1, 1), (2, 1, 0), (1, 2, 0, 1)):
            every = [saying for saying in all_sayings(rooms) if APART not in saying[2]]
            world = world_of(rooms)
            for _ in range(40):
                desk = Desk(world)
                for at in range(dice.randrange(5)):
                    desk.say(dice.choice(HANDS), "s" + str(at), dice.choice(every))
                before = desk.text()
                for question in some_questions(rooms, 3, dice.random()):
                    answer = desk.row("eve: " + print_question(world, question))
                    self.assertEqual(answer, print_answer(world, desk.ask(question)))
                    self.assertEqual(read_answer(world, answer), desk.ask(question))
                self.check_others(desk, world, dice.sample(range(len(rooms)), 2))
                self.assertEqual(desk.text(), before)

    def check_others(self, desk, world, pair):
        x, y = pair
        self.assertEqual(desk.row(f"eve: where {world[0][x]} {world[0][y]}"), print_saying(world, (x, y, desk.where(x, y))))
        whose = desk.whose()
        names = "none" if whose is None else ", ".join(entry[0] + " " + entry[1] for entry in whose)
        self.assertEqual(desk.row("eve: whose"), names)
        forest = form(desk.book())
        if forest is None:
            self.assertEqual(desk.row("eve: form"), print_paper(world, no_paper(desk.book())))
        else:
            self.assertEqual(desk.row("eve: form"), "form " + print_forest(world, forest))
        self.assertEqual(desk.row("eve: book"), " ; ".join(desk.text()[1:]) or "empty")

    def test_things_that_are_not_named_change_no_answer(self):
        dice = random.Random(712)
        rooms = (1, 2, 0)
        every, world = all_sayings(rooms), world_of(rooms)
        for _ in range(40):
            rows = [f"{dice.choice(HANDS)}: say s{at} {print_saying(world, dice.choice(every))}" for at in range(5)]
            one, two = told(*rows, world=world), told("ann: thing new1 r s", *rows, "ann: thing new2", world=world)
            asked = ["eve: whose", "eve: book"]
            asked += [f"eve: where {x} {y}" for x, y in itertools.permutations(world[0], 2)]
            for row in asked:
                self.assertEqual(two.row(row), one.row(row))
            for question in some_questions(rooms, 3, dice.random()):
                row = "eve: " + print_question(world, question)
                self.assertEqual(two.row(row).split()[0], one.row(row).split()[0])


class WholeRuns(Case):

    def some_row(self, own, dice):
        names, doors = own.world
        hand = dice.choice(HANDS)
        word = dice.choice(("say",) * 5 + ("back", "back", "undo", "undo", "redo", "redo", "thing", "sure", "may", "where",
                                           "whose", "form", "book"))
        if word == "thing":
            more = " ".join([" x" + str(dice.randrange(99))] + ["r", "s", "t"][:dice.randrange(4)])
        elif word == "say":
            more = f" s{dice.randrange(5)} {self.some_saying(own, dice)}"
        elif word == "back":
            more = " s" + str(dice.randrange(5))
        elif word in ("sure", "may"):
            more = " " + dice.choice(("{}", "{} | {}", "{} & {}", "{} & {} | {}")).format(
                *[self.some_saying(own, dice) for _ in range(3)])
        elif word == "where":
            more = " " + " ".join(dice.choices(names, k=2)) if names else " a b"
        else:
            more = ""
        row = f"{hand}: {word}{more}"
        if dice.random() < 0.08:
            at = dice.randrange(len(row))
            row = row[:at] + dice.choice((" in ", "1", ")", " ", " a ", "A", "\n", "")) + row[at + 1:]
        return row

    def some_saying(self, own, dice):
        rooms = tuple(map(len, own.world[1]))
        if len(rooms) < 2:
            return "a in b"
        x, y = dice.sample(range(min(len(rooms), 5)), 2)
        lets = [each for each in all_standings(rooms, x, y) if dice.random() < (0.2 if each == APART else 0.7)]
        return print_saying(own.world, (x, y, tuple(lets)))

    def test_four_hands_and_a_world_that_grows(self):
        answers = {}
        for seed, rooms in ((721, ()), (722, (1, 1)), (723, (2, 1, 0)), (724, (1, 1, 1, 1)), (725, (4, 0, 2))):
            dice = random.Random(seed)
            desk, own = Desk(world_of(rooms)), OwnDesk(world_of(rooms))
            for at in range(700):
                row = self.some_row(own, dice)
                answer = desk.row(row)
                self.assertEqual(answer, own.row(row), row)
                self.assertEqual((desk.world(), desk.entries(), desk.book()), (own.world, own.entries(), own.book()))
                begin = " ".join(answer.split()[:2] if answer.startswith(("refused", "ok")) else answer.split()[:1])
                answers[begin] = answers.get(begin, 0) + 1
                if at % 100 == 99:
                    other = desk_of(desk.text())
                    self.assertEqual((other.world(), other.entries()), (desk.world(), desk.entries()))
        for begin in ("ok", "ok, not", "refused: BadText", "refused: NoThing", "refused: SameThing", "refused: Twice",
                      "refused: NoSaying", "refused: NothingToUndo", "refused: NothingToRedo", "yes", "no", "yes:", "no:",
                      "none", "form", "barred"):
            self.assertGreater(answers.get(begin, 0), 3, (begin, answers))


class Quick(Case):

    def full(self, ahead, seed):
        """A desk of 24 things and 400 entries, all put in by rows, and its answers."""
        dice = random.Random(seed)
        rooms = (4,) * 24
        world = world_of(rooms)
        sayings = ahead + list(said_of(rooms, some_forest(rooms, dice), dice, 0.5))[:400 - len(ahead)]
        desk = Desk(world_of(rooms[:20]))
        for x in range(20, 24):
            self.assertEqual(desk.row(" ".join(["ann: thing", world[0][x], *world[1][x]])), "ok")
        answers = [desk.row(f"{HANDS[at % 4]}: say s{at} {print_saying(world, saying)}")
                   for at, saying in enumerate(sayings)]
        self.assertEqual(desk.world(), world)
        self.assertEqual(desk.book(), (rooms, tuple(sayings)))
        return desk, answers

    def test_24_things_and_400_entries(self):
        with self.quickly():
            desk, answers = self.full([], 731)
            self.assertEqual(answers, ["ok"] * 400)
            self.assertEqual(desk.row("ann: say new a any b"), "refused: TooMany 5")
            self.ask(desk)

    def test_24_things_and_400_entries_that_cannot_be_kept(self):
        with self.quickly():
            desk, answers = self.full([(0, 1, ())], 732)
            self.assertEqual(answers, ["ok, not kept: ann s0"] * 400)
            self.ask(desk)
            for _ in range(99):
                self.assertEqual(desk.row("ann: undo"), "ok, not kept: ann s0")
            self.assertEqual(desk.row("ann: undo"), "ok")

    def ask(self, desk):
        dice = random.Random(733)
        world = desk.world()
        rooms = tuple(map(len, world[1]))
        rows = tuple(tuple((x, y, dice.choice(subsets(all_standings(rooms, x, y)))) for x, y in dice.sample(PAIRS, 8))
                     for _ in range(8))
        for word in ("sure", "may"):
            question = (word, rows)
            self.assertEqual(desk.row("eve: " + print_question(world, question)), print_answer(world, desk.ask(question)))
        for x, y in PAIRS[::30]:
            self.check_where(desk, world, x, y)
        self.assertEqual(desk.row("eve: book"), " ; ".join(desk.text()[1:]))
        self.assertIn(desk.row("eve: form").split()[0], ("form", "barred"))
        self.assertIn(desk.row("eve: whose"), ("none", "ann s0"))
        self.assertEqual(desk_of(desk.text()).entries(), desk.entries())

    def check_where(self, desk, world, x, y):
        self.assertEqual(desk.row(f"eve: where {world[0][x]} {world[0][y]}"), print_saying(world, (x, y, desk.where(x, y))))

    def test_rows_of_20000_signs(self):
        text = "ann: say s2 a in b." + "r/" * 9990 + "s"
        self.assertEqual(len(text), 20000)
        with self.quickly():
            desk = Desk(WORLD)
            self.assertEqual(desk.row(text + "s"), "refused: BadText 20000")
            self.assertEqual(desk.row(text[:-1] + "t"), "refused: NoRoom 19999")
            self.assertEqual(desk.entries(), ())
            self.assertEqual(desk.row(text), "ok")
            self.assertEqual(desk.entries(), (("ann", "s2", INSIDE),))
