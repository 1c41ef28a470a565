"""The machine: a yard with a crane and a journal, and the code that it runs."""

from nestsay.checks import has_room, has_thing, is_number, is_pair
from nestsay.errors import BadCode, BadCut, BadYard, Hooked, NoHook, Refused, Within
from nestsay.forests import made_forest, put, room_within
from nestsay.journal import base_text
from nestsay.rooms import made_rooms


def made_yard(rooms, yard):
    """The yard, if it is one of these rooms."""
    made_rooms(rooms)
    if not isinstance(yard, tuple) or len(yard) != 3:
        raise BadYard(-1)
    forest, hook, journal = yard
    made_forest(rooms, forest)
    if hook is not None and not (has_thing(rooms, hook) and forest[hook] is None):
        raise BadYard(1)
    if not isinstance(journal, str):
        raise BadYard(2)
    return yard


def is_yard(rooms, yard):
    """Whether made_yard returns it."""
    try:
        made_yard(rooms, yard)
    except Refused:
        return False
    return True


def new_yard(rooms, forest):
    """A yard at rest with this forest."""
    made_forest(rooms, forest)
    return (forest, None, base_text(forest))


def made_code(rooms, code):
    """The code, if it is one of these rooms."""
    made_rooms(rooms)
    if not isinstance(code, tuple):
        raise BadCode(-1)
    for index, row in enumerate(code):
        if not _fits_row(rooms, row):
            raise BadCode(index)
    return code


def step(rooms, yard, row):
    """The yard behind one code row."""
    made_yard(rooms, yard)
    if not _fits_row(rooms, row):
        raise BadCode(0)
    return _behind(yard, [row])


def run(rooms, yard, code):
    """The yard behind all rows of the code."""
    made_yard(rooms, yard)
    made_code(rooms, code)
    return _behind(yard, code)


def off(yard):
    """The yard when the power has failed: what was on the hook lies on the floor."""
    return (yard[0], None, yard[2])


def cut(rooms, yard, code, rows, signs):
    """The yard when the power fails behind so many rows of the code and signs of the next row's text."""
    made_yard(rooms, yard)
    made_code(rooms, code)
    if not is_number(rows) or not 0 <= rows <= len(code):
        raise BadCut(0)
    text = _next_text(code, rows)
    if not is_number(signs) or not (signs == 0 or 0 < signs < len(text)):
        raise BadCut(1)
    forest, _, journal = _behind(yard, code[:rows])
    return (forest, None, journal + text[:signs])


def _fits_row(rooms, row):
    if row == ("trim",):
        return True
    if not is_pair(row):
        return False
    word, told = row
    if word == "lift":
        return has_thing(rooms, told)
    if word == "lower":
        return told is None or (is_pair(told) and has_room(rooms, told[0], told[1]))
    return word == "write" and isinstance(told, str) and told != ""


def _behind(yard, code):
    """The yard behind the rows, of what is known to be a yard and code."""
    forest, hook, journal = yard
    for row in code:
        if row[0] == "lift":
            forest, hook = _lifted(forest, hook, row[1])
        elif row[0] == "lower":
            forest, hook = _lowered(forest, hook, row[1])
        elif row[0] == "write":
            journal = journal + row[1]
        else:
            journal = journal[:journal.rfind("\n") + 1]
    return (forest, hook, journal)


def _lifted(forest, hook, x):
    if hook is not None:
        raise Hooked(hook)
    return (put(forest, x, None), x)


def _lowered(forest, hook, place):
    if hook is None:
        raise NoHook(0)
    if place is not None and (place[0] == hook or room_within(forest, place[0], hook) is not None):
        raise Within(place[0])
    return (put(forest, hook, place), None)


def _next_text(code, rows):
    """The text that the row behind so many rows writes, empty if there is none."""
    if rows < len(code) and code[rows][0] == "write":
        return code[rows][1]
    return ""
