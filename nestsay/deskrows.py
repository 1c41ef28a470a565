"""Rows of the desk: deeds and questions that hands write, and the texts of their answers."""

from nestsay.answertexts import answer_text
from nestsay.errors import BadText, NoSaying, NothingToRedo, NothingToUndo, SameThing, TooMany, Twice
from nestsay.entrytexts import print_entries
from nestsay.foresttexts import forest_text
from nestsay.papers import no_paper
from nestsay.papertexts import paper_text
from nestsay.questiontexts import question_in
from nestsay.readsaying import saying_in
from nestsay.sayingtexts import saying_text
from nestsay.solver import form
from nestsay.words import Words
from nestsay.worldtexts import doors_in


def answer_row(desk, text):
    """Do or answer the row; what is refused raises its error with a place in the row."""
    words = Words(text)
    hand = words.name()
    words.pick((":",))
    if words.word() not in ACTIONS:
        raise BadText(words.place())
    action = ACTIONS[words.word()]
    return action(desk, hand, words)


def _put_thing(desk, hand, words):
    row_place = words.skip()
    name_place = words.place()
    name = words.name()
    doors = doors_in(words)
    words.end()
    try:
        desk.thing(hand, name, doors)
    except Twice:
        raise Twice(name_place)
    except TooMany:
        raise TooMany(row_place)
    return _done_text(desk)


def _put_saying(desk, hand, words):
    row_place = words.skip()
    name_place = words.place()
    name = words.name()
    saying = saying_in(words, desk.world())
    words.end()
    try:
        desk.say(hand, name, saying)
    except Twice:
        raise Twice(name_place)
    except TooMany:
        raise TooMany(row_place)
    return _done_text(desk)


def _take_back(desk, hand, words):
    words.skip()
    name_place = words.place()
    name = words.name()
    words.end()
    try:
        desk.back(hand, name)
    except NoSaying:
        raise NoSaying(name_place)
    return _done_text(desk)


def _go_back_or_on(desk, hand, words):
    row_place = words.place()
    word = words.pick(("undo", "redo"))
    words.end()
    try:
        if word == "undo":
            desk.undo(hand)
        else:
            desk.redo(hand)
    except NothingToUndo:
        raise NothingToUndo(row_place)
    except NothingToRedo:
        raise NothingToRedo(row_place)
    except TooMany:
        raise TooMany(row_place)
    return _done_text(desk)


def _tell_answer(desk, _, words):
    world = desk.world()
    question = question_in(words, world)
    words.end()
    return answer_text(world, desk.ask(question))


def _tell_where(desk, _, words):
    words.skip()
    world = desk.world()
    x = words.known_thing(world)
    place = words.place()
    y = words.known_thing(world)
    if x == y:
        raise SameThing(place)
    words.end()
    return saying_text(world, (x, y, desk.where(x, y)))


def _tell_whose(desk, _, words):
    words.skip()
    words.end()
    entries = desk.whose()
    return "none" if entries is None else _names_text(entries)


def _tell_form(desk, _, words):
    words.skip()
    words.end()
    world = desk.world()
    book = desk.book()
    forest = form(book)
    if forest is None:
        return paper_text(world, no_paper(book))
    told = forest_text(world, forest)
    return f"form {told}" if told else "form"


def _tell_book(desk, _, words):
    words.skip()
    words.end()
    entries = desk.entries()
    return " ; ".join(print_entries(desk.world(), entries)) if entries else "empty"


def _done_text(desk):
    """The answer of a deed."""
    entries = desk.whose()
    return "ok" if entries is None else f"ok, not kept: {_names_text(entries)}"


def _names_text(entries):
    return ", ".join([f"{hand} {name}" for hand, name, _ in entries])


ACTIONS = {
    "thing": _put_thing, "say": _put_saying, "back": _take_back, "undo": _go_back_or_on, "redo": _go_back_or_on,
    "sure": _tell_answer, "may": _tell_answer, "where": _tell_where, "whose": _tell_whose,
    "form": _tell_form, "book": _tell_book,
}
