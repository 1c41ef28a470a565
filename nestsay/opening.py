"""Opening: how a yard is brought to rest again behind a power cut, and mended if somebody touched it."""

from nestsay.books import made_book
from nestsay.crane import hang_code, hangs_to, laid, walk_code
from nestsay.deeds import forest_after
from nestsay.errors import BadNumber, Elsewhere, Hooked, Touched
from nestsay.forests import put
from nestsay.journal import base_text, check_closed, journal_of, shut_text
from nestsay.machine import made_yard, off, run
from nestsay.mending import mended
from nestsay.nets import Net


def pace(rooms, yard):
    """How far the yard is with what its journal announces, None if it is touched."""
    return _pace_of(_journal_in(rooms, yard), yard[0])


def opening_code(rooms, yard):
    """The code that brings a stopped yard to rest."""
    journal = _journal_in(rooms, yard)
    k = _untouched_pace(journal, yard[0])
    return _trim_code(journal) + _ending_code(journal, yard[0], k)


def opened(rooms, yard):
    """The yard behind its opening code."""
    code = opening_code(rooms, yard)
    return run(rooms, off(yard), code)


def healing_code(book, yard):
    """The code that brings any yard to a least form of the book."""
    made_book(book)
    journal = _journal_in(book[0], yard)
    forest = yard[0]
    target = mended(book, forest)
    if journal.pending is None and forest == journal.forest and forest == target:
        return _trim_code(journal)
    return _trim_code(journal) + laid(forest, target, journal.many)


def healed(book, yard):
    """The yard behind its healing code."""
    code = healing_code(book, yard)
    return run(book[0], off(yard), code)


def tidied(rooms, yard):
    """The yard at rest with a journal that has only a base row."""
    journal = _journal_in(rooms, yard)
    if yard[1] is not None:
        raise Hooked(yard[1])
    _untouched_pace(journal, yard[0])
    check_closed(journal)
    return (yard[0], None, base_text(journal.forest))


def done(rooms, yard):
    """How many shut rows the yard's journal has."""
    return _journal_in(rooms, yard).shuts


def rest_code(book, forest, walk, yard):
    """The code of a walk that is still to be run behind a stop and an opening."""
    walk_code(book, forest, walk, 1)
    journal = _journal_in(book[0], yard)
    check_closed(journal)
    d = journal.shuts
    if d > len(walk):
        raise BadNumber(d)
    here = forest_after(Net(book), forest, walk[:d])
    if yard[0] != here:
        raise Elsewhere(d)
    return walk_code(book, here, walk[d:], journal.many)


def _journal_in(rooms, yard):
    """The journal of what has to be a yard, read."""
    made_yard(rooms, yard)
    return journal_of(rooms, yard[2])


def _untouched_pace(journal, forest):
    k = _pace_of(journal, forest)
    if k is None:
        raise Touched(journal.many)
    return k


def _pace_of(journal, forest):
    if journal.pending is None:
        return 0 if forest == journal.forest else None
    kind, told = journal.pending
    return 0 if kind == "lay" else _hangs_done(journal.forest, told, forest)


def _hangs_done(before, hangs, forest):
    """The greatest number of hangs behind which the forest can stand, None if there is none."""
    found = None
    at = before
    for k, (x, place) in enumerate(hangs):
        # Behind a cut the thing of the next hang may lie on the floor.
        if forest == at or forest == put(at, x, None):
            found = k
        at = put(at, x, place)
    return len(hangs) if forest == at else found


def _trim_code(journal):
    return (("trim",),) if journal.torn != "" else ()


def _ending_code(journal, forest, k):
    """The code that does what is pending and tells that it is done."""
    if journal.pending is None:
        return ()
    kind, told = journal.pending
    hangs = hangs_to(forest, told) if kind == "lay" else told[k:]
    return hang_code(hangs) + (("write", shut_text(journal.many)),)
