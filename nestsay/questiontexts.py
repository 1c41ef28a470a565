"""Questions as texts."""

from nestsay.answers import MOST_OF_ROW, MOST_ROWS, check_question
from nestsay.readsaying import saying_in
from nestsay.sayingtexts import saying_text
from nestsay.words import Words
from nestsay.worlds import made_world, rooms_in

# For each word the sign between rows and the one between the sayings of a row.
SIGNS = {"sure": ("&", "|"), "may": ("|", "&")}


def read_question(world, text):
    """The question that the text tells about the things of the world."""
    made_world(world)
    words = Words(text)
    question = question_in(words, world)
    words.end()
    return question


def print_question(world, question):
    """The text of a question about the things of the world."""
    made_world(world)
    check_question(rooms_in(world), question)
    word, rows = question
    outer, inner = SIGNS[word]
    told = [_joined([saying_text(world, saying) for saying in row], inner) for row in rows]
    return f"{word} {_joined(told, outer)}"


def question_in(words, world):
    """The question whose text stands next."""
    word = words.pick(("sure", "may"))
    outer, inner = SIGNS[word]
    rows = [_row_in(words, world, inner)]
    while words.word() == outer and len(rows) < MOST_ROWS:
        words.skip()
        rows.append(_row_in(words, world, inner))
    return (word, tuple(rows))


def _row_in(words, world, sign):
    row = [saying_in(words, world)]
    while words.word() == sign and len(row) < MOST_OF_ROW:
        words.skip()
        row.append(saying_in(words, world))
    return tuple(row)


def _joined(texts, sign):
    between = f" {sign} "
    return between.join(texts)
