"""Questions, and their answers with a form or with papers."""

from nestsay.books import first_broken, is_book, made_book
from nestsay.checks import is_number, is_pair
from nestsay.errors import BadQuestion, Refused, TooMany
from nestsay.follows import contraries
from nestsay.forests import is_forest
from nestsay.kernel import paper_shows
from nestsay.nets import Net
from nestsay.papers import paper_of
from nestsay.rooms import made_rooms
from nestsay.sayings import fits_saying
from nestsay.solver import form_of

MOST_ROWS = 8
MOST_OF_ROW = 8


def made_question(rooms, thing):
    """The question, if it is one about things with these rooms."""
    made_rooms(rooms)
    check_question(rooms, thing)
    return thing


def is_question(rooms, thing):
    """Whether made_question returns it."""
    try:
        made_question(rooms, thing)
    except Refused:
        return False
    return True


def contrary_question(rooms, question):
    """The question that is answered "yes" just where this one is answered "no"."""
    made_question(rooms, question)
    word, rows = question
    return ("may" if word == "sure" else "sure", tuple([tuple(contraries(rooms, row)) for row in rows]))


def answer(book, question):
    """What the book answers."""
    made_book(book)
    check_question(book[0], question)
    found_word, other_word = _answer_words(question)
    nets = [Net(book).also(said) for said in _said_of(book[0], question)]
    for index, net in enumerate(nets):
        found = form_of(net)
        if found is not None:
            return (found_word, index, found)
    return (other_word, tuple([paper_of(net) for net in nets]))


def answer_right(book, question, thing):
    """Whether these are a book, a question and a right answer."""
    if not is_book(book) or not is_question(book[0], question) or not isinstance(thing, tuple):
        return False
    found_word, other_word = _answer_words(question)
    said = _said_of(book[0], question)
    if len(thing) == 3:
        return thing[0] == found_word and _form_right(book, said, thing[1], thing[2])
    return len(thing) == 2 and thing[0] == other_word and _papers_right(book, said, thing[1])


def check_question(rooms, thing):
    """Refuse what is no question about things with these rooms."""
    if not _has_rows(thing):
        raise BadQuestion(-1)
    rows = thing[1]
    if len(rows) > MOST_ROWS:
        raise TooMany(len(rows))
    for index, row in enumerate(rows):
        if not _is_row(rooms, row):
            raise BadQuestion(index)


def _has_rows(thing):
    if not is_pair(thing):
        return False
    word, rows = thing
    return word in ("sure", "may") and isinstance(rows, tuple) and len(rows) > 0


def _is_row(rooms, row):
    if not isinstance(row, tuple) or not 1 <= len(row) <= MOST_OF_ROW:
        return False
    for saying in row:
        if not fits_saying(rooms, saying):
            return False
    return True


def _answer_words(question):
    """The answer if the book of a row can be kept, and the one if none can."""
    return ("no", "yes") if question[0] == "sure" else ("yes", "no")


def _said_of(rooms, question):
    """What each row puts behind the sayings of the book that it asks."""
    word, rows = question
    return [tuple(contraries(rooms, row)) if word == "sure" else row for row in rows]


def _form_right(book, said, index, forest):
    if not is_number(index) or not 0 <= index < len(said):
        return False
    rooms, sayings = book
    return is_forest(rooms, forest) and first_broken((rooms, sayings + said[index]), forest) is None


def _papers_right(book, said, papers):
    if not isinstance(papers, tuple) or len(papers) != len(said):
        return False
    net = Net(book)
    for paper, more in zip(papers, said):
        if not paper_shows(book[0], net.also(more), paper):
            return False
    return True
