import random

from helper import ODD, Case, all_forests, changed, forest_fault, some_books, world_of
from test_answers import some_questions
from test_papertexts import PAPER, TEXT, WORLD, is_paper, some_paper, told
from test_quick import some_forest
from nestsay.answers import answer, answer_right
from nestsay.answertexts import print_answer, read_answer
from nestsay.errors import BadAnswer, BadText, BadWorld, Missing, NoRoom, NoThing, Twice
from textlook import WORDS, answer_look, mutants

SMALL = ((1,), (((), ()),))
SMALL_TEXT = "barred b: b {}"


def is_answer(rooms, thing):
    if type(thing) is not tuple or len(thing) not in (2, 3) or thing[0] not in ("yes", "no"):
        return False
    if len(thing) == 3:
        return type(thing[1]) is int and 0 <= thing[1] <= 7 and forest_fault(rooms, thing[2]) is None
    return (type(thing[1]) is tuple and 1 <= len(thing[1]) <= 8 and all(is_paper(rooms, paper) for paper in thing[1]))


class Texts(Case):

    def check(self, world, thing, text):
        self.assertEqual(print_answer(world, thing), text)
        self.assertEqual(read_answer(world, text), thing)
        self.assertEqual(answer_look(world, text), thing)

    def test_forests(self):
        world = (("a", "b", "c"), (("r", "s"), (), ("r",)))
        for word in ("yes", "no"):
            for index in range(8):
                self.check(world, (word, index, (None, (0, 1), (0, 0))), f"{word} {index}: a[c[]|b]")
        self.assertEqual(print_answer(answer=("no", 0, (None, None, None)), world=world), "no 0: a[|] b c[]")
        self.assertEqual(read_answer(text="no 0:b a[|]c[]", world=world), ("no", 0, (None, None, None)))

    def test_an_empty_world(self):
        self.check(((), ()), ("yes", 0, ()), "yes 0: ")
        self.check(((), ()), ("no", 7, ()), "no 7: ")
        self.assertEqual(read_answer(((), ()), "yes 0:"), ("yes", 0, ()))

    def test_papers(self):
        for word in ("yes", "no"):
            self.check(WORLD, (word, (PAPER,)), f"{word}: {TEXT}")
            self.check(WORLD, (word, (PAPER, SMALL, PAPER)), f"{word}: {TEXT} & {SMALL_TEXT} & {TEXT}")
            self.check(WORLD, (word, (SMALL,) * 8), word + ": " + " & ".join([SMALL_TEXT] * 8))

    def test_things_called_yes_and_no(self):
        world = (("yes", "no"), (("no",), ()))
        self.check(world, ("yes", 0, (None, (0, 0))), "yes 0: yes[no]")
        self.check(world, ("no", (((0, 1), (((1,), (1,)), ((0,), ()))),)), "no: barred yes, no: yes {no} no; no {yes}")


class Refusals(Case):

    def test_the_first_words(self):
        for word in WORDS:
            if word not in ("yes", "no"):
                self.refused(BadText, 0, read_answer, WORLD, word + " 0: ")
            if word not in ("0", "1", "7", ":"):
                self.refused(BadText, 4, read_answer, WORLD, "yes " + word)
            if word != ":":
                self.refused(BadText, 6, read_answer, WORLD, "yes 0 " + word)
            if word != "barred":
                self.refused(BadText, 5, read_answer, WORLD, "yes: " + word)
        for text in ("", " ", "yes", "no ", "yes 7", "yes: ", "yes:", "no: barred"):
            self.refused(BadText, len(text), read_answer, WORLD, text)

    def test_numbers(self):
        for word in ("8", "9", "10", "99", "100", "999", "1000", "00", "01", "007", "0a", "1a", "-1", "+1"):
            self.refused(BadText, 4, read_answer, ((), ()), "yes " + word + ": ")

    def test_8_and_9_papers(self):
        text = "no: " + " & ".join([SMALL_TEXT] * 8)
        self.assertEqual(read_answer(WORLD, text), ("no", (SMALL,) * 8))
        self.refused(BadText, len(text) + 1, read_answer, WORLD, text + " & " + SMALL_TEXT)
        self.refused(BadText, len(text), read_answer, WORLD, text + "&")
        text = "no: " + " & ".join([SMALL_TEXT] * 7 + ["barred b, c: b {}"])
        self.refused(Missing, 2, read_answer, WORLD, text)
        self.refused(BadText, len(text) + 1, read_answer, WORLD, text + " &")
        self.refused(BadAnswer, 0, print_answer, WORLD, ("no", (SMALL,) * 9))

    def test_missing_is_asked_behind_each_paper(self):
        self.refused(Missing, 2, read_answer, WORLD, "no: barred b, c: b {} & in")
        self.refused(Missing, 2, read_answer, WORLD, "no: barred b, c: b {}")
        self.refused(BadText, 22, read_answer, WORLD, "no: barred b, c: b {} |")
        self.refused(NoRoom, 22, read_answer, WORLD, "no: barred b, c: b {} c")
        self.refused(NoRoom, 22, read_answer, WORLD, "no: barred b, c: c {} & in")
        self.refused(Missing, 2, read_answer, WORLD, f"no: {SMALL_TEXT} & barred b, c: b {{}}")

    def test_behind_a_paper(self):
        self.refused(BadText, 20, read_answer, WORLD, f"no: {SMALL_TEXT}  |")
        self.refused(NoRoom, 19, read_answer, WORLD, f"no: {SMALL_TEXT} zz")
        self.refused(BadText, 20, read_answer, WORLD, f"no: {SMALL_TEXT} &")
        self.refused(BadText, 21, read_answer, WORLD, f"no: {SMALL_TEXT} & no: {SMALL_TEXT}")

    def test_behind_a_forest(self):
        world = (("a", "b"), (("r",), ()))
        self.refused(BadText, 13, read_answer, world, "yes 0: a[b]  &")
        self.refused(BadText, 12, read_answer, world, "yes 0: a[b] ;")
        self.refused(Twice, 12, read_answer, world, "yes 0: a[b] b")
        self.refused(NoThing, 12, read_answer, world, "yes 0: a[b] zz")
        self.refused(NoRoom, 8, read_answer, world, "yes 0: a")
        self.refused(Missing, 0, read_answer, world, "yes 0: b")
        self.refused(Missing, 0, read_answer, world, "yes 0: ")
        self.refused(BadText, 7, read_answer, world, "yes 0: barred a: a {} b")

    def test_the_first_wrong_word(self):
        world = (("a", "b", "c"), (("r", "s"), (), ("r",)))
        for text in ("yes 0: a[c[]|b]", "no 7: b c[a[|]]", "yes: barred a: a {b} c b",
                     "no: barred b, c: b {c}; c {} c & barred b: b {}"):
            for mutant in mutants(text, ["a", "b", "c", "r"]):
                self.as_read(answer_look, read_answer, world, mutant)
        text = "no: " + " & ".join(["barred b: b {}"] * 8)
        for at in range(len(text) + 1):
            for word in (" & ", " ; ", " b ", " } ", ""):
                self.as_read(answer_look, read_answer, world, text[:at] + word + text[at:])
                self.as_read(answer_look, read_answer, world, text[:at] + word)

    def test_all_kinds_of_values(self):
        rooms = (1, 2)
        odd = ODD + ("yes", "no", 7, 8, (SMALL,) * 8, (((1,), (((), (0, 1)),)),) * 8, (((1,), (((), (0, 1)),)),) * 9)
        for right in (("yes", 7, (None, (0, 0))), ("no", (((0, 1), (((1,), (1,)), ((0,), (0, 0)))),))):
            for thing in changed(right, odd):
                if is_answer(rooms, thing):
                    self.assertEqual(read_answer(world_of(rooms), print_answer(world_of(rooms), thing)), thing)
                else:
                    self.refused(BadAnswer, 0, print_answer, world_of(rooms), thing)

    def test_errors_and_their_order(self):
        self.asks_world(read_answer, None)
        self.asks_world(read_answer, "in")
        self.asks_text(read_answer, WORLD)
        self.asks_world(print_answer, None)
        self.refused(BadWorld, -1, print_answer, None, None)
        for thing in (None, (), "yes", ("yes",), ("yes", ()), ("maybe", (SMALL,)), ("yes", 0), ("yes", 0, (None,)),
                      ("yes", 8, (None,) * 4), ("yes", -1, (None,) * 4), ("yes", True, (None,) * 4),
                      ("yes", 0, (None,) * 4, 0), ("yes", (SMALL, None)), ("yes", SMALL), ("sure", 0, (None,) * 4)):
            self.refused(BadAnswer, 0, print_answer, (WORLD[0][:4], WORLD[1][:4]), thing)


class ToldAndReadBack(Case):

    def check(self, world, thing):
        text = print_answer(world, thing)
        self.assertEqual(read_answer(world, text), thing)
        self.assertEqual(answer_look(world, text), thing)
        return text

    def test_answers_of_small_books(self):
        for rooms, seed in (((1, 1), 705), ((2, 1, 0), 706), ((1, 2, 0, 1), 707)):
            for book, question in zip(some_books(rooms, 60, seed), some_questions(rooms, 60, seed)):
                told_answer = answer(book, question)
                text = self.check(world_of(rooms), told_answer)
                self.assertIs(answer_right(book, question, read_answer(world_of(rooms), text)), True)
            for forest in all_forests(rooms):
                self.check(world_of(rooms), ("no", 3, forest))

    def test_24_things(self):
        dice = random.Random(708)
        rooms = (4,) * 24
        world = world_of(rooms)
        with self.quickly():
            for _ in range(20):
                self.check(world, ("yes", 5, some_forest(rooms, dice)))
            for many in (1, 4, 8):
                papers = tuple(some_paper(rooms, dice) for _ in range(many))
                text = print_answer(world, ("no", papers))
                self.assertEqual(text, "no: " + " & ".join(told(world, paper) for paper in papers))
                if len(text) <= 20000:
                    self.assertEqual(read_answer(world, text), ("no", papers))
                else:
                    self.refused(BadText, 20000, read_answer, world, text)
