"""Questions and answers: beside all forests of small things, and at the limits."""

import itertools
import random

from helper import (APART, ODD, Case, Look, all_forests, all_sayings, all_standings, book_fault, changed, rooms_fault,
                    saying_fault, some_books, subsets)
from test_quick import PAIRS, said_of, some_forest
from nestsay.answers import answer, answer_right, contrary_question, is_question, made_question
from nestsay.errors import BadBook, BadQuestion, BadRooms, TooMany
from nestsay.kernel import no_right
from nestsay.papers import no_paper
from nestsay.solver import form

ROOMS = (1, 1)
NESTED = (0, 1, (("in", 0), ("around", 0)))
BOOK = (ROOMS, (NESTED,))
INSIDE = (0, 1, (("in", 0),))
OUTSIDE = (1, 0, (("in", 0),))
AWAY = (0, 1, (APART,))


def question_fault(rooms, thing):
    """The error, and its what, that made_question has to raise; None if it has to return."""
    if rooms_fault(rooms):
        return rooms_fault(rooms)
    if type(thing) is not tuple or len(thing) != 2 or thing[0] not in ("sure", "may"):
        return BadQuestion, -1
    rows = thing[1]
    if type(rows) is not tuple or not rows:
        return BadQuestion, -1
    if len(rows) > 8:
        return TooMany, len(rows)
    for index, row in enumerate(rows):
        if type(row) is not tuple or not 1 <= len(row) <= 8 or any(saying_fault(rooms, saying) for saying in row):
            return BadQuestion, index
    return None


def opposite(rooms, saying):
    x, y, lets = saying
    return x, y, tuple(each for each in all_standings(rooms, x, y) if each not in lets)


def row_books(book, question):
    """The book that each row asks."""
    rooms, sayings = book
    if question[0] == "sure":
        return [(rooms, sayings + tuple(opposite(rooms, saying) for saying in row)) for row in question[1]]
    return [(rooms, sayings + row) for row in question[1]]


def answer_words(question):
    return ("no", "yes") if question[0] == "sure" else ("yes", "no")


def some_questions(rooms, many, seed):
    dice = random.Random(seed)
    every = all_sayings(rooms)
    for _ in range(many):
        rows = tuple(tuple(dice.choices(every, k=dice.choice((1, 1, 2, 3)))) for _ in range(dice.choice((1, 1, 2, 3))))
        yield dice.choice(("sure", "may")), rows


class Questions(Case):

    def check(self, rooms, thing):
        fault = question_fault(rooms, thing)
        self.assertIs(is_question(rooms, thing), fault is None, thing)
        self.as_told(fault, made_question, rooms, thing)
        self.as_told(fault, contrary_question, rooms, thing)
        if fault is None:
            self.assertIs(made_question(rooms, thing), thing)
            other = contrary_question(rooms, thing)
            self.assertEqual(other, ("may" if thing[0] == "sure" else "sure",
                                     tuple(tuple(opposite(rooms, saying) for saying in row) for row in thing[1])))
            self.assertEqual(contrary_question(rooms, other), thing)
            self.assertIs(is_question(rooms, other), True)

    def test_a_question(self):
        question = ("sure", ((INSIDE, AWAY), (OUTSIDE,)))
        self.assertIs(made_question(rooms=ROOMS, thing=question), question)
        self.assertIs(is_question(rooms=ROOMS, thing=question), True)
        self.assertEqual(contrary_question(rooms=ROOMS, question=question),
                         ("may", (((0, 1, (APART, ("around", 0))), NESTED), ((1, 0, (APART, ("around", 0))),))))

    def test_8_and_9_rows_and_sayings(self):
        self.check(ROOMS, ("may", ((INSIDE,) * 8,) * 8))
        self.refused(TooMany, 9, made_question, ROOMS, ("may", ((INSIDE,),) * 9))
        self.refused(TooMany, 9, made_question, ROOMS, ("sure", (None,) * 9))
        self.refused(BadQuestion, 7, made_question, ROOMS, ("may", ((INSIDE,),) * 7 + ((INSIDE,) * 9,)))
        self.refused(BadQuestion, 1, made_question, ROOMS, ("may", ((INSIDE,), (), None)))

    def test_no_pair(self):
        for thing in (None, "sure", (), ("sure",), ("sure", ()), ("sure", None), ("any", ((INSIDE,),)), (None, None),
                      ("sure", ((INSIDE,),), ()), ("sure", [(INSIDE,)]), ("sure", "a"), (("sure",), ((INSIDE,),))):
            self.refused(BadQuestion, -1, made_question, ROOMS, thing)
            self.assertIs(is_question(ROOMS, thing), False)

    def test_all_kinds_of_values(self):
        for question in (("sure", ((INSIDE, AWAY), (OUTSIDE,))), ("may", ((NESTED,),))):
            for thing in changed(question, ODD + ("sure", "may")):
                self.check(ROOMS, thing)
            for rooms in changed(ROOMS):
                self.check(rooms, question)

    def test_errors(self):
        for function in (made_question, contrary_question):
            self.asks_rooms(function, None)
            self.refused(BadRooms, -1, function, None, ("sure", ()))


class Answers(Case):

    def check(self, book, question, forests, odd=()):
        look = Look(book)
        asked = row_books(book, question)
        kept = [Look(each).forms(forests) for each in asked]
        found_word, other_word = answer_words(question)
        told = answer(book, question)
        if any(kept):
            index = [bool(forms) for forms in kept].index(True)
            self.assertEqual(told, (found_word, index, form(asked[index])))
            self.assertIn(told[2], kept[index])
        else:
            self.assertEqual(told, (other_word, tuple(Look(each).paper() for each in asked)))
            self.assertEqual(told[1], tuple(map(no_paper, asked)))
        keeps = [[[look_keeps(look, forest, saying) for saying in row] for row in question[1]]
                 for forest in look.forms(forests)]
        if question[0] == "sure":
            yes = all(any(row) for rows in keeps for row in rows)
        else:
            yes = any(all(row) for rows in keeps for row in rows)
        self.assertEqual(told[0], "yes" if yes else "no")
        other = answer(book, contrary_question(book[0], question))
        self.assertEqual({told[0], other[0]}, {"yes", "no"})
        self.check_right(book, question, told, forests, kept, odd)

    def check_right(self, book, question, told, forests, kept, odd):
        self.assertIs(answer_right(book, question, told), True)
        found_word, other_word = answer_words(question)
        for index, forms in enumerate(kept):
            for forest in forests:
                self.assertIs(answer_right(book, question, (found_word, index, forest)), forest in forms)
            for forest in forms[:3]:
                self.assertIs(answer_right(book, question, (other_word, index, forest)), False)
                self.assertIs(answer_right(book, question, (found_word, len(kept), forest)), False)
                self.assertIs(answer_right(book, question, (found_word, index - len(kept), forest)), False)
        for thing in changed(told, odd):
            self.assertIs(answer_right(book, question, thing), self.right(book, question, kept, thing), thing)

    def right(self, book, question, kept, thing):
        """The tests' own judge of an answer."""
        found_word, other_word = answer_words(question)
        if type(thing) is not tuple or len(thing) not in (2, 3):
            return False
        if len(thing) == 3:
            word, index, forest = thing
            return (word == found_word and type(index) is int and 0 <= index < len(kept)
                    and type(forest) is tuple and forest in kept[index]
                    and not any(type(part) is bool for place in forest if place for part in place))
        if thing[0] != other_word or type(thing[1]) is not tuple or len(thing[1]) != len(kept):
            return False
        return all(Look(each).no_right(paper) for each, paper in zip(row_books(book, question), thing[1]))

    def test_example(self):
        self.assertEqual(answer(BOOK, ("sure", ((INSIDE,),))), ("no", 0, (None, (0, 0))))
        self.assertEqual(answer(question=("sure", ((INSIDE,),)), book=BOOK), ("no", 0, (None, (0, 0))))
        self.assertIs(answer_right(book=BOOK, question=("sure", ((INSIDE,),)), thing=("no", 0, (None, (0, 0)))), True)

    def test_the_two_words(self):
        paper = ((0, 1), (((1,), (1,)), ((0,), (0,))))
        self.assertEqual(answer(BOOK, ("sure", ((INSIDE, OUTSIDE),))), ("yes", (paper,)))
        self.assertEqual(answer(BOOK, ("may", ((INSIDE, OUTSIDE),))), ("no", (paper,)))
        self.assertEqual(answer(BOOK, ("may", ((AWAY,), (INSIDE,)))), ("yes", 1, ((1, 0), None)))
        self.assertEqual(answer(BOOK, ("sure", ((NESTED,), (INSIDE,)))), ("no", 1, (None, (0, 0))))
        self.assertEqual(answer(BOOK, ("sure", ((NESTED,), (INSIDE, OUTSIDE)))), ("yes", (paper, paper)))

    def test_any_row_with_a_form_is_right(self):
        question = ("may", ((INSIDE,), (AWAY,), (OUTSIDE,)))
        self.assertEqual(answer(BOOK, question)[1], 0)
        self.assertIs(answer_right(BOOK, question, ("yes", 2, (None, (0, 0)))), True)
        self.assertIs(answer_right(BOOK, question, ("yes", 0, (None, (0, 0)))), False)
        self.assertIs(answer_right(BOOK, question, ("yes", 1, (None, None))), False)
        self.assertIs(answer_right(BOOK, question, ("yes", 3, (None, (0, 0)))), False)
        self.assertIs(answer_right(BOOK, question, ("yes", True, (None, (0, 0)))), False)
        self.assertIs(answer_right(BOOK, question, ("yes", -1, (None, (0, 0)))), False)

    def test_other_right_papers(self):
        rooms = (2, 1, 1)
        book = (rooms, ((1, 0, (("in", 0),)), (2, 0, (("in", 1),)), (1, 2, (("in", 0), ("around", 0)))))
        told = answer(book, ("may", (((1, 2, (("in", 0),)),),)))
        self.assertEqual(told, ("no", (((0, 1, 2), (((1, 2), (2, 1)), ((0, 2), (0,)), ((0, 1), (0,)))),)))
        other = ((0, 1, 2), (((1, 2), (2, 1)), ((0,), (0,)), ((0, 1), (0,))))
        self.assertIs(answer_right(book, ("may", (((1, 2, (("in", 0),)),),)), ("no", (other,))), True)
        self.assertIs(answer_right(book, ("may", (((1, 2, ()),),)), ("no", (((1, 2), (((2,), (2,)), ((1,), (1,)))),))),
                      True)
        self.assertIs(answer_right(book, ("may", (((1, 0, (("in", 0),)),),)), ("no", (other,))), True)
        self.assertIs(answer_right((rooms, ()), ("may", (((1, 2, (("in", 0),)),),)), ("no", (other,))), False)

    def test_papers_in_the_order_of_their_rows(self):
        book = ((0, 0, 0), ())
        question = ("may", (((0, 1, ()),), ((1, 2, ()),)))
        told = answer(book, question)
        self.assertIs(answer_right(book, question, ("no", told[1])), True)
        self.assertIs(answer_right(book, question, ("no", told[1][::-1])), False)
        self.assertIs(answer_right(book, question, ("no", told[1][:1])), False)
        self.assertIs(answer_right(book, question, ("no", told[1] + told[1][:1])), False)
        self.assertIs(answer_right(book, question, ("yes", told[1])), False)

    def test_a_world_without_things_has_no_question(self):
        self.refused(BadQuestion, 0, answer, ((), ()), ("may", (((0, 1, ()),),)))
        self.refused(BadQuestion, -1, answer, ((), ()), ("may", ()))

    def test_all_questions_of_one_saying(self):
        for rooms in ((0, 0), (1, 0), (1, 1), (2, 1)):
            forests = all_forests(rooms)
            for saying, said in itertools.product(all_sayings(rooms), [()] + [(each,) for each in all_sayings(rooms)]):
                for word in ("sure", "may"):
                    self.check((rooms, said), (word, ((saying,),)), forests)

    def test_small_books(self):
        for rooms, seed in (((1, 1), 701), ((2, 1, 0), 702), ((1, 1, 1), 703), ((1, 2, 0, 1), 704)):
            forests = all_forests(rooms)
            for book, question in zip(some_books(rooms, 60, seed), some_questions(rooms, 60, seed)):
                self.check(book, question, forests, (None, True, 0, 1, (), ("yes",), "no", (None,)))

    def test_answers_with_one_place_changed(self):
        forests = all_forests(ROOMS)
        for question in (("sure", ((INSIDE,), (NESTED,))), ("may", ((AWAY,), (INSIDE, OUTSIDE))),
                         ("sure", ((INSIDE, OUTSIDE),)), ("may", ((OUTSIDE,),))):
            self.check(BOOK, question, forests, ODD + ("yes", "no"))

    def test_books_and_questions_that_are_none(self):
        question = ("sure", ((INSIDE,),))
        right = ("no", 0, (None, (0, 0)))
        for book in changed(BOOK):
            told = answer_right(book, question, right)
            if book_fault(book):
                self.assertIs(told, False)
        for other in changed(question, ODD + ("sure", "may")):
            told = answer_right(BOOK, other, right)
            if question_fault(ROOMS, other):
                self.assertIs(told, False)

    def test_400_sayings_and_a_row_behind_them(self):
        book = (ROOMS, (NESTED,) * 400)
        told = answer(book, ("may", ((AWAY,) * 8, (INSIDE,) * 8)))
        self.assertEqual(told, ("yes", 1, ((1, 0), None)))
        self.assertIs(answer_right(book, ("may", ((AWAY,) * 8, (INSIDE,) * 8)), told), True)
        told = answer(book, ("sure", ((NESTED,) * 8,)))
        self.assertEqual(told, ("yes", (((0, 1), (((1,), (1,)), ((0,), (0,)))),)))
        self.assertIs(answer_right(book, ("sure", ((NESTED,) * 8,)), told), True)
        self.refused(TooMany, 401, answer, (ROOMS, (NESTED,) * 401), ("sure", ((NESTED,),)))
        self.assertIs(answer_right((ROOMS, (NESTED,) * 401), ("sure", ((NESTED,) * 8,)), told), False)

    def test_errors_and_their_order(self):
        self.asks_book(answer, None)
        self.refused(BadBook, -1, answer, None, ("sure", ()))
        self.refused(BadQuestion, -1, answer, BOOK, ("sure", ()))
        self.refused(TooMany, 9, answer, BOOK, ("sure", ((),) * 9))
        self.refused(BadQuestion, 1, answer, BOOK, ("may", ((INSIDE,), (INSIDE, (0, 2, ())), None)))
        self.refused(BadQuestion, 0, answer, BOOK, ("may", (((0, 1, (("in", 1),)),),)))


def look_keeps(look, forest, saying):
    return Look((look.rooms, (saying,))).broken(forest) is None


class Quick(Case):

    def test_24_things_and_400_sayings(self):
        rooms = (4,) * 24
        for seed, lost in ((711, 0.2), (712, 0.5), (713, 0.9)):
            dice = random.Random(seed)
            forest = some_forest(rooms, dice)
            book = (rooms, tuple(said_of(rooms, forest, dice, lost)))
            rows = tuple(tuple((x, y, dice.choice(subsets(all_standings(rooms, x, y))))
                               for x, y in dice.sample(PAIRS, 8)) for _ in range(8))
            kept = tuple(book[1][at:at + 8] for at in range(0, 64, 8))
            with self.quickly():
                for question in (("sure", rows), ("may", rows), ("sure", kept), ("may", kept)):
                    told = answer(book, question)
                    self.assertIs(answer_right(book, question, told), True)
                    other = answer(book, contrary_question(rooms, question))
                    self.assertEqual({told[0], other[0]}, {"yes", "no"})
                self.assertEqual(answer(book, ("sure", kept))[0], "yes")
                self.assertEqual(answer(book, ("may", kept))[:2], ("yes", 0))

    def test_papers_of_books_with_more_than_400_sayings(self):
        book = (ROOMS, (NESTED,) * 400)
        for question in (("may", ((AWAY,),) * 8), ("sure", ((NESTED,),) * 8)):
            papers = answer(book, question)[1]
            for paper in papers:
                self.assertIs(no_right((ROOMS, (NESTED, AWAY)), paper), True)
            self.assertIs(answer_right(book, question, (answer_words(question)[1], papers)), True)
