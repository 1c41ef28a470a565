"""The code by which the crane does deeds and walks, or lays a whole forest."""

from nestsay.checks import is_number
from nestsay.deeds import hangs_of
from nestsay.errors import BadNumber, BadWalk
from nestsay.forests import by_depth, made_forest, put_all
from nestsay.journal import lay_text, open_text, shut_text
from nestsay.leastforms import net_of_least


def hang_code(hangs):
    """The code of a tuple of hangs."""
    code = []
    for x, place in hangs:
        code.extend([("lift", x), ("lower", place)])
    return tuple(code)


def deed_code(book, forest, deed, number):
    """The code of a deed that is granted in a least form."""
    told = hangs_of(net_of_least(book, forest), forest, deed)
    _check_number(number)
    return _told_and_done(open_text(number, told), told, number)


def walk_code(book, forest, walk, number):
    """The code of deeds, each granted behind those ahead of it."""
    net = net_of_least(book, forest)
    if not isinstance(walk, tuple):
        raise BadWalk(-1)
    _check_number(number)
    code = []
    for deed in walk:
        told = hangs_of(net, forest, deed)
        code.extend(_told_and_done(open_text(number, told), told, number))
        forest = put_all(forest, told)
        number = number + 2
    return tuple(code)


def lay(rooms, forest, target):
    """The hangs that lead from any forest to any other one."""
    made_forest(rooms, forest)
    made_forest(rooms, target)
    return hangs_to(forest, target)


def lay_code(rooms, forest, target, number):
    """The code that leads from any forest to any other one."""
    told = lay(rooms, forest, target)
    _check_number(number)
    return laid(forest, target, number) if told else ()


def hangs_to(forest, target):
    """The same as lay, of what is known to be two forests of the same rooms."""
    # What lies outermost in the target goes first: so nothing is ever hung into what lies within it.
    return tuple([(x, target[x]) for x in by_depth(target) if forest[x] != target[x]])


def laid(forest, target, number):
    """The same as lay_code, but with the rows of the journal also if the two are equal."""
    return _told_and_done(lay_text(number, target), hangs_to(forest, target), number)


def _told_and_done(text, hangs, number):
    """The code that announces hangs by a row with this number, does them, and tells that they are done."""
    return (("write", text),) + hang_code(hangs) + (("write", shut_text(number + 1)),)


def _check_number(number):
    if not is_number(number) or number < 1:
        raise BadNumber(number)
