import itertools
import random

from helper import APART, Case, all_sayings, all_standings, subsets, world_of
from nestsay.errors import BadQuestion, BadText, BadWorld, NoRoom, NoThing, OtherPair, SameThing, TooMany
from nestsay.questiontexts import print_question, read_question
from nestsay.sayingtexts import print_saying
from nestsay.worldtexts import read_world
from textlook import RESERVED, mutants, question_look

WORLD = read_world("a r, b r s, c")
INSIDE = (0, 1, (("in", 0), ("in", 1)))


class Read(Case):

    def check(self, text, told):
        self.assertEqual(read_question(WORLD, text), told)
        self.assertEqual(question_look(WORLD, text), told)

    def test_rows(self):
        around = (1, 0, (("around", 0),))
        self.check("sure a in b", ("sure", ((INSIDE,),)))
        self.check("may a in b", ("may", ((INSIDE,),)))
        self.check("sure a in b | b around a.r", ("sure", ((INSIDE, around),)))
        self.check("may a in b | b around a.r", ("may", ((INSIDE,), (around,))))
        self.check("sure a in b & b around a.r", ("sure", ((INSIDE,), (around,))))
        self.check("may a in b&b around a.r", ("may", ((INSIDE, around),)))
        self.check("sure a in b | b around a.r & a in b & a in b | a in b",
                   ("sure", ((INSIDE, around), (INSIDE,), (INSIDE, INSIDE))))
        self.check("may a in b | b around a.r & a in b & a in b | a in b",
                   ("may", ((INSIDE,), (around, INSIDE, INSIDE), (INSIDE,))))
        self.assertEqual(read_question(text="sure a in b", world=WORLD), ("sure", ((INSIDE,),)))

    def test_each_saying_has_its_own_two_things(self):
        self.check("sure a in b | c apart b", ("sure", ((INSIDE, (2, 1, (APART,))),)))
        self.check("sure a in b & c apart b", ("sure", ((INSIDE,), ((2, 1, (APART,)),))))
        self.refused(OtherPair, 24, read_question, WORLD, "sure a in b | a in b or c in b")
        self.refused(SameThing, 19, read_question, WORLD, "sure a in b | a in a")

    def test_counts_begin_anew(self):
        text = "not " * 20 + "a in b"
        self.check("sure " + " | ".join([text] * 8), ("sure", ((INSIDE,) * 8,)))
        text = " or ".join(["a in b"] * 40)
        whole = "may " + " & ".join([text] * 8) + " | " + text
        self.check(whole, ("may", ((INSIDE,) * 8, (INSIDE,))))
        self.refused(BadText, len(whole) + 4, read_question, WORLD, whole + " or a in b")
        self.refused(BadText, len(whole) + 84, read_question, WORLD, whole + " | " + "not " * 20 + " not a in b")

    def test_8_and_9_rows(self):
        for word, outer, inner in (("sure", "&", "|"), ("may", "|", "&")):
            text = word + " " + f" {outer} ".join(["a in b"] * 8)
            self.check(text, (word, ((INSIDE,),) * 8))
            self.refused(BadText, len(text) + 1, read_question, WORLD, text + f" {outer} a in b")
            self.refused(BadText, len(text) + 1, read_question, WORLD, text + f" {outer}")
            self.check(text + f" {inner} a in b", (word, ((INSIDE,),) * 7 + ((INSIDE, INSIDE),)))

    def test_8_and_9_sayings_of_a_row(self):
        for word, outer, inner in (("sure", "&", "|"), ("may", "|", "&")):
            text = word + " " + f" {inner} ".join(["a in b"] * 8)
            self.check(text, (word, ((INSIDE,) * 8,)))
            self.refused(BadText, len(text) + 1, read_question, WORLD, text + f" {inner} a in b")
            self.refused(BadText, len(text), read_question, WORLD, text + f"{inner} zz")
            self.check(text + f" {outer} a in b", (word, ((INSIDE,) * 8, (INSIDE,))))
            whole = word + " " + f" {outer} ".join([text[len(word) + 1:]] * 8)
            self.check(whole, (word, ((INSIDE,) * 8,) * 8))
            self.refused(BadText, len(whole), read_question, WORLD, whole + outer)
            self.refused(BadText, len(whole), read_question, WORLD, whole + inner)

    def test_the_first_word(self):
        for word in ["", "a", "1", "(", "sures", "yes"] + RESERVED:
            if word not in ("sure", "may"):
                self.refused(BadText, 0, read_question, WORLD, word + " a in b" if word else "")
        for text in ("sure", "may", "sure  ", "may a in b |", "sure a in b &", "sure (a in b"):
            self.refused(BadText, len(text), read_question, WORLD, text)
        self.refused(BadText, 5, read_question, WORLD, "sure | a in b")
        self.refused(BadText, 13, read_question, WORLD, "sure (a in b | a in b)")
        self.refused(BadText, 12, read_question, WORLD, "sure a in b sure a in b")

    def test_names(self):
        self.refused(NoThing, 5, read_question, WORLD, "sure d in a")
        self.refused(NoRoom, 11, read_question, WORLD, "may a in b.t & &")

    def test_the_first_wrong_word(self):
        for text in ("sure a in b", "may not b around a.r | c any a & a with b", "sure (a apart b) | c in b.s & a never c"):
            for mutant in mutants(text, ["a", "b", "c", "r", "s"]):
                self.as_read(question_look, read_question, WORLD, mutant)
        text = "may " + " | ".join([" & ".join(["c in b"] * 8)] * 8)
        for at in range(len(text)):
            mutant = text[:at] + "|" + text[at:]
            self.as_read(question_look, read_question, WORLD, mutant)
            self.as_read(question_look, read_question, WORLD, mutant.replace("|", "&", 2))


class Told(Case):

    def check(self, world, question):
        word, rows = question
        outer, inner = (" & ", " | ") if word == "sure" else (" | ", " & ")
        text = print_question(world, question)
        self.assertEqual(text, word + " " + outer.join(inner.join(print_saying(world, saying) for saying in row)
                                                       for row in rows))
        self.assertEqual(read_question(world, text), question)
        self.assertEqual(question_look(world, text), question)

    def test_texts(self):
        question = ("sure", ((INSIDE, (1, 0, ())), ((2, 0, (APART, ("in", 0))),)))
        self.assertEqual(print_question(WORLD, question), "sure a in b | b never a & c any a")
        self.assertEqual(print_question(question=("may", question[1]), world=WORLD), "may a in b & b never a | c any a")

    def test_each_question_of_small_worlds_is_read_back(self):
        for rooms in ((0, 0), (1, 0), (1, 1)):
            world = world_of(rooms)
            every = all_sayings(rooms)
            for word in ("sure", "may"):
                for one, two in itertools.product(every, repeat=2):
                    self.check(world, (word, ((one, two),)))
                    self.check(world, (word, ((one,), (two,))))

    def test_questions_of_any_shape_are_read_back(self):
        dice = random.Random(672)
        rooms = (2, 1, 0, 4)
        every = all_sayings(rooms)
        for _ in range(200):
            rows = tuple(tuple(dice.choices(every, k=dice.choice((1, 2, 8)))) for _ in range(dice.choice((1, 2, 3, 8))))
            self.check(world_of(rooms), (dice.choice(("sure", "may")), rows))

    def test_24_things(self):
        dice = random.Random(673)
        rooms = (4,) * 24
        pairs = list(itertools.permutations(range(24), 2))
        rows = tuple(tuple((x, y, dice.choice(subsets(all_standings(rooms, x, y)))) for x, y in dice.sample(pairs, 8))
                     for _ in range(8))
        with self.quickly():
            for word in ("sure", "may"):
                self.check(world_of(rooms), (word, rows))

    def test_texts_of_20000_signs(self):
        rooms = "aaaaaaaaaaaa/bbbbbbbbbbbb"
        world = ("x1", "x2"), (("aaaaaaaaaaaa", "bbbbbbbbbbbb"), ())
        saying = "x2 in x1." + "/".join([rooms] * 92)
        text = "may " + " & ".join([saying] * 8) + " | "
        with self.quickly():
            whole = (text + saying[:20000])[:20000]
            self.as_read(question_look, read_question, world, whole)
            whole = text + "x2 in x1"
            whole += " " * (20000 - len(whole))
            self.assertEqual(read_question(world, whole)[1][0], ((1, 0, (("in", 0), ("in", 1))),) * 8)
            self.refused(BadText, 20000, read_question, world, whole + " ")


class Errors(Case):

    def test_errors_and_their_order(self):
        self.asks_world(read_question, None)
        self.asks_world(read_question, "in")
        self.asks_text(read_question, WORLD)
        self.asks_world(print_question, None)
        self.refused(BadWorld, -1, print_question, None, ("sure", ()))
        self.refused(BadQuestion, -1, print_question, WORLD, ("sure", ()))
        self.refused(BadQuestion, -1, print_question, WORLD, "sure a in b")
        self.refused(TooMany, 9, print_question, WORLD, ("may", (None,) * 9))
        self.refused(BadQuestion, 1, print_question, WORLD, ("may", ((INSIDE,), (INSIDE, (0, 3, ())), None)))
        self.refused(BadQuestion, 0, print_question, WORLD, ("may", ((INSIDE,) * 9,)))
