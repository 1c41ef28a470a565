"""What follows from a book: clauses that each form of it keeps."""

from nestsay.books import made_book
from nestsay.errors import BadClause, BadSaying, TooMany
from nestsay.nets import Net
from nestsay.papers import paper_of
from nestsay.sayings import fits_saying, other_side
from nestsay.solver import form_of

MOST_OF_CLAUSE = 40


def follows(book, clause):
    """Whether each form of the book keeps the clause."""
    return against(book, clause) is None


def against(book, clause):
    """A form of the book that breaks the clause, or None."""
    return form_of(_net_against(book, clause))


def why(book, clause):
    """The paper that shows that no form breaks the clause, or None."""
    return paper_of(_net_against(book, clause))


def check_clause(rooms, clause):
    """Refuse what is no clause of things with these rooms."""
    if not isinstance(clause, tuple):
        raise BadClause(-1)
    if len(clause) > MOST_OF_CLAUSE:
        raise TooMany(len(clause))
    for index, saying in enumerate(clause):
        if not fits_saying(rooms, saying):
            raise BadSaying(index)


def contraries(rooms, clause):
    """The contraries of a clause's sayings: who keeps them all breaks the clause."""
    return [other_side(rooms, saying) for saying in clause]


def _net_against(book, clause):
    made_book(book)
    check_clause(book[0], clause)
    return Net(book).also(contraries(book[0], clause))
