import random
import re

from helper import Case, all_forests, climb, forest_fault, is_place
from nestsay.errors import BadJournal, BadRooms, Pending, TooMany, Torn
from nestsay.forests import is_forest
from nestsay.journal import base_only, base_text, lay_text, open_text, read_journal, shut_text

ROOMS = (1, 1)
BASE = "0 base - 0.0\n"
NUMBER = "(?:0|[1-9][0-9]*)"
PLACE = "(?:-|{0}[.]{0})".format(NUMBER)
BASE_ROW = re.compile(r"(0) (base)((?: {})*)".format(PLACE))
LAY_ROW = re.compile(r"({}) (lay)((?: {})*)".format(NUMBER, PLACE))
OPEN_ROW = re.compile(r"({0}) (open)((?: {0}:{1})+)".format(NUMBER, PLACE))
SHUT_ROW = re.compile(r"({}) (shut)()".format(NUMBER))


def place_told(word):
    if word == "-":
        return None
    holder, room = word.split(".")
    return int(holder), int(room)


def hung_told(rooms, forest, hangs):
    """The forest behind the hangs, None if one of them is not let."""
    if len({x for x, _ in hangs}) < len(hangs):
        return None
    for x, place in hangs:
        if not 0 <= x < len(rooms) or not is_place(rooms, x, place) or forest[x] == place:
            return None
        if place is not None and x in [holder for holder, _ in climb(forest, place[0])]:
            return None
        forest = forest[:x] + (place,) + forest[x + 1:]
    return forest


def row_told(rooms, index, row, forest, pending):
    """The forest and what is pending behind a row; None if it may not stand there."""
    for pattern in (BASE_ROW, OPEN_ROW, LAY_ROW, SHUT_ROW):
        met = pattern.fullmatch(row)
        if met and int(met[1]) == index:
            kind, words = met[2], met[3].split()
            break
    else:
        return None
    if kind in ("base", "lay"):
        target = tuple(place_told(word) for word in words)
        if forest_fault(rooms, target) or (kind == "base") != (index == 0):
            return None
        return (target, None) if kind == "base" else (forest, ("lay", target))
    if index == 0:
        return None
    if kind == "open":
        hangs = tuple((int(word.split(":")[0]), place_told(word.split(":")[1])) for word in words)
        if pending or hung_told(rooms, forest, hangs) is None:
            return None
        return forest, ("open", hangs)
    if not pending:
        return None
    return (pending[1] if pending[0] == "lay" else hung_told(rooms, forest, pending[1])), None


def journal_told(rooms, text):
    """What read_journal has to return, or the index at which it has to refuse."""
    rows = text.split("\n")
    torn = rows.pop()
    if not rows:
        return 0
    forest = pending = None
    for index, row in enumerate(rows):
        told = row_told(rooms, index, row, forest, pending)
        if told is None:
            return index
        forest, pending = told
    return len(rows), forest, pending, torn


def some_hangs(rooms, forest, dice):
    """Some hangs that are let one after another."""
    found = ()
    for x in dice.sample(range(len(rooms)), len(rooms)):
        place = dice.choice([None] + [(y, i) for y in range(len(rooms)) for i in range(rooms[y])])
        if hung_told(rooms, forest, found + ((x, place),)) is not None:
            found += ((x, place),)
    return found


def some_journal(rooms, forests, dice, rows):
    """A journal of so many rows, without a torn piece."""
    forest, pending = dice.choice(forests), None
    text = base_text(forest)
    for index in range(1, rows):
        kind = dice.choice(("open", "open", "lay") if pending is None else ("shut", "shut", "shut", "lay"))
        hangs = some_hangs(rooms, forest, dice) if kind == "open" else ()
        if kind == "shut":
            text += shut_text(index)
            forest = pending[1] if pending[0] == "lay" else hung_told(rooms, forest, pending[1])
            pending = None
        elif hangs:
            text += open_text(index, hangs)
            pending = "open", hangs
        else:
            pending = "lay", dice.choice(forests)
            text += lay_text(index, pending[1])
    return text


class Texts(Case):

    def test_base_text(self):
        self.assertEqual(base_text((None, (0, 0))), BASE)
        self.assertEqual(base_text(()), "0 base\n")
        self.assertEqual(base_text(forest=((23, 3), None)), "0 base 23.3 -\n")

    def test_open_text(self):
        self.assertEqual(open_text(1, ((1, None), (0, (1, 0)))), "1 open 1:- 0:1.0\n")
        self.assertEqual(open_text(hangs=((10, (23, 3)),), number=799), "799 open 10:23.3\n")

    def test_lay_text(self):
        self.assertEqual(lay_text(1, (None, (0, 0), (1, 0))), "1 lay - 0.0 1.0\n")
        self.assertEqual(lay_text(12, ()), "12 lay\n")
        self.assertEqual(lay_text(forest=(None,), number=3), "3 lay -\n")

    def test_shut_text(self):
        self.assertEqual(shut_text(2), "2 shut\n")
        self.assertEqual(shut_text(number=100), "100 shut\n")


class Reading(Case):

    def test_examples(self):
        text = "0 base - 0.0\n1 open 1:- 0:1.0\n2 sh"
        told = (2, (None, (0, 0)), ("open", ((1, None), (0, (1, 0)))), "2 sh")
        self.assertEqual(read_journal(ROOMS, text), told)
        self.assertEqual(read_journal(text=text, rooms=ROOMS), told)
        self.assertEqual(read_journal(ROOMS, text + "ut\n"), (3, ((1, 0), None), None, ""))
        for wrong in ("0 base - 0.0\n1 open 0:1.0\n", "0 base - 0.0\n1 open 1:0.0\n"):
            self.refused(BadJournal, 1, read_journal, ROOMS, wrong)
        self.refused(BadJournal, 0, read_journal, ROOMS, "0 base - 0.0")

    def test_no_row(self):
        for text in ("", "0 base - -", " ", "x", "1 shut", "0 base - 0.0\r"):
            self.refused(BadJournal, 0, read_journal, ROOMS, text)
            self.refused(BadJournal, 0, base_only, ROOMS, text)
            self.refused(BadJournal, 0, read_journal, (), text)

    def test_no_things(self):
        self.assertEqual(read_journal((), "0 base\n"), (1, (), None, ""))
        self.assertEqual(read_journal((), "0 base\n1 lay\n"), (2, (), ("lay", ()), ""))
        self.assertEqual(read_journal((), "0 base\n1 lay\n2 shut\n3"), (3, (), None, "3"))
        for text in ("0 base \n", "0 base -\n", "0\n", "\n", "base\n"):
            self.refused(BadJournal, 0, read_journal, (), text)
        for row in ("1 open\n", "1 open \n", "1 open 0:-\n", "1 lay -\n", "1 lay \n", "1 shut\n"):
            self.refused(BadJournal, 1, read_journal, (), "0 base\n" + row)

    def test_the_torn_piece_is_never_read(self):
        for torn in ("", "1", "1 shut", "9 base", "  ", "0 base - -", "\r", "\t\v\x1c\x85\u2028", "% {}", "1 open 0:0.0"):
            self.assertEqual(read_journal(ROOMS, BASE + torn), (1, (None, (0, 0)), None, torn))
        self.assertEqual(read_journal(ROOMS, "0 base - -\n" + "1 shut" * 1000)[3], "1 shut" * 1000)

    def test_rows_that_are_not_written_so(self):
        for row in ("1  lay - -", "1 lay  - -", "1 lay - - ", " 1 lay - -", "1 lay -  -", "01 lay - -", "+1 lay - -",
                    "1 lay - 00.0", "1 lay - 0.00", "1 lay - 0.", "1 lay - .0", "1 lay - 0", "1 lay - 0.0.0",
                    "1 lay -\t-", "1\tlay - -", "1 lay - -\r", "1 Lay - -", "1 LAY - -", "1 lay, - -", "lay - -", "1",
                    "", "1 ", "1 lay -", "1 lay - - -", "1 lay -- -", "1 lay - +0.0", "1 lay - 0,0", "1 lay \u2013 -",
                    "1 lay - \u0660.\u0660", "\u0661 lay - -", "1 lay - 0.\u0660", "1\u00a0lay - -", "1 lay None -",
                    "1 open", "1 open ", "1 open 1", "1 open 1:", "1 open :-", "1 open 1:-:-", "1 open 1 :-",
                    "1 open 1: -", "1 open 01:-", "1 open +1:-", "1 open -1:-", "1 open 1-", "1 open 1:- ",
                    "1 open  1:-", "1 open 1:-  0:1.0", "1 open \u0661:-", "1 open -:1", "1 shut ", "1 shut -",
                    "1 shut 0", "1 sh", "1 done", "1 base - -", "1 base - 0.0", "0 base - 0.0", "0 lay - -", "2 lay - -",
                    "0 shut", "2 shut", "-1 lay - -", "1.0 lay - -", "0x1 lay - -", "1_0 lay - -"):
            self.refused(BadJournal, 1, read_journal, ROOMS, BASE + row + "\n")
            self.refused(BadJournal, 1, read_journal, ROOMS, BASE + row + "\n1 lay - -\n")
        for row in ("0  base - -", "00 base - -", "1 base - -", "0 base - - ", " 0 base - -", "0 base -", "0 base",
                    "0 base - - -", "0 lay - -", "0 open 0:-", "0 shut", "0", "", "base - -", "0 base - 1.0",
                    "0 base - 2.0", "0 base - 0.1", "0 base 1.0 0.0", "0 base - 0.0\r", "0 Base - -", "-0 base - -"):
            self.refused(BadJournal, 0, read_journal, ROOMS, row + "\n")
            self.refused(BadJournal, 0, read_journal, ROOMS, row + "\n" + BASE)

    def test_rows_end_with_a_line_feed_alone(self):
        for sign in ("\r", "\r\n", "\v", "\f", "\x1c", "\x85", "\u2028"):
            self.refused(BadJournal, 0, read_journal, ROOMS, "0 base - 0.0" + sign + "\n")
            self.refused(BadJournal, 1, read_journal, ROOMS, BASE + "1 lay - -" + sign + "2 shut\n")

    def test_the_base_row(self):
        for forest in all_forests((2, 1, 0)):
            self.assertEqual(read_journal((2, 1, 0), base_text(forest)), (1, forest, None, ""))
        self.refused(BadJournal, 2, read_journal, ROOMS, BASE + "1 lay - -\n0 base - -\n")
        self.refused(BadJournal, 2, read_journal, ROOMS, BASE + "1 lay - -\n2 base - -\n")
        self.refused(BadJournal, 1, read_journal, ROOMS, BASE + BASE)

    def test_open_rows(self):
        rooms = (2, 1, 0)
        base = "0 base - 0.0 1.0\n"
        told = ((2, None), (1, None), (0, (1, 0)))
        self.assertEqual(read_journal(rooms, base + "1 open 2:- 1:- 0:1.0\n"),
                         (2, (None, (0, 0), (1, 0)), ("open", told), ""))
        self.assertEqual(read_journal(rooms, base + "1 open 2:- 1:- 0:1.0\n2 shut\n"), (3, ((1, 0), None, None), None, ""))
        # Each hang is let behind those ahead of it.
        self.refused(BadJournal, 1, read_journal, rooms, base + "1 open 0:1.0 1:-\n")
        self.assertEqual(read_journal(rooms, base + "1 open 1:- 0:1.0\n")[0], 2)
        for words in ("0:-", "1:0.0", "2:1.0", "0:0.0", "0:1.0", "1:0.2", "1:2.0", "1:3.0", "3:-", "2:- 2:0.1",
                      "1:- 1:0.0", "2:0.1 2:1.0", "1:- 2:1.0", "1:0.1 0:1.0", "24:-", "1:24.0", "1:0.9"):
            self.refused(BadJournal, 1, read_journal, rooms, base + "1 open " + words + "\n")
        for pending in ("1 open 2:-\n", "1 lay - - -\n"):
            self.refused(BadJournal, 2, read_journal, rooms, base + pending + "2 open 1:0.1\n")
            self.assertEqual(read_journal(rooms, base + pending + "2 shut\n3 open 1:0.1\n")[2], ("open", ((1, (0, 1)),)))

    def test_a_hang_into_what_lies_deep_within(self):
        self.refused(BadJournal, 1, read_journal, (1, 1, 1), "0 base - 0.0 1.0\n1 open 0:2.0\n")
        self.refused(BadJournal, 1, read_journal, (1, 1, 1), "0 base - 0.0 1.0\n1 open 1:2.0\n")

    def test_lay_rows(self):
        self.assertEqual(read_journal(ROOMS, BASE + "1 lay 1.0 -\n"), (2, (None, (0, 0)), ("lay", ((1, 0), None)), ""))
        self.assertEqual(read_journal(ROOMS, BASE + "1 lay 1.0 -\n2 shut\n"), (3, ((1, 0), None), None, ""))
        # What was pending is dropped; the target may be what is told so far.
        for pending in ("1 open 1:-\n", "1 lay 1.0 -\n"):
            self.assertEqual(read_journal(ROOMS, BASE + pending + "2 lay - 0.0\n3 shut\n"), (4, (None, (0, 0)), None, ""))
            self.assertEqual(read_journal(ROOMS, BASE + pending + "2 lay - -\n3 lay 1.0 -\n"),
                             (4, (None, (0, 0)), ("lay", ((1, 0), None)), ""))
        for words in ("1.0 0.0", "0.0 -", "- 1.0", "2.0 -", "- 0.1", "-"):
            self.refused(BadJournal, 1, read_journal, ROOMS, BASE + "1 lay " + words + "\n")

    def test_shut_rows(self):
        self.refused(BadJournal, 1, read_journal, ROOMS, BASE + "1 shut\n")
        self.refused(BadJournal, 3, read_journal, ROOMS, BASE + "1 open 1:-\n2 shut\n3 shut\n")
        self.refused(BadJournal, 3, read_journal, ROOMS, BASE + "1 lay - -\n2 shut\n3 shut\n")

    def test_rows_are_numbered(self):
        text = BASE
        for index in range(1, 121, 2):
            text += "{} open 1:{}\n{} shut\n".format(index, "-" if index % 4 == 1 else "0.0", index + 1)
        self.assertEqual(read_journal(ROOMS, text), (121, (None, (0, 0)), None, ""))
        self.refused(BadJournal, 101, read_journal, ROOMS, text.replace("101 ", "102 "))
        self.refused(BadJournal, 101, read_journal, ROOMS, text.replace("101 ", "0101 "))

    def test_more_than_800_rows(self):
        text = BASE + "".join("{} lay - -\n".format(index) for index in range(1, 900))
        self.assertEqual(read_journal(ROOMS, text), (900, (None, (0, 0)), ("lay", (None, None)), ""))

    def test_some_journals(self):
        dice = random.Random(151)
        for rooms in ((), (3,), (1, 1), (2, 1, 0), (1, 1, 1), (4, 0, 2, 1), (1,) * 12):
            forests = all_forests(rooms) if len(rooms) < 5 else [(None,) * 12, (None,) + ((0, 0),) * 11]
            for _ in range(60):
                text = some_journal(rooms, forests, dice, dice.randrange(1, 12))
                torn = dice.choice(("", "", "7 sh", " "))
                told = journal_told(rooms, text)
                self.assertEqual(read_journal(rooms, text + torn), told[:3] + (torn,))
                self.assertIs(is_forest(rooms, told[1]), True)
                for _ in range(25):
                    self.check(rooms, self.changed(text, dice))

    def changed(self, text, dice):
        """The text with a sign or two put in, left out or put otherwise."""
        for _ in range(dice.choice((1, 1, 2))):
            at = dice.randrange(len(text) + 1)
            text = text[:at] + dice.choice(list("0123-.: \n") + ["", "", "-", " 1:-", "1 lay", "shut\n"]) + \
                text[at + dice.choice((0, 1, 1)):]
        return text

    def check(self, rooms, text):
        told = journal_told(rooms, text)
        if isinstance(told, int):
            self.refused(BadJournal, told, read_journal, rooms, text)
            self.refused(BadJournal, told, base_only, rooms, text)
        else:
            self.assertEqual(read_journal(rooms, text), told)

    def test_errors_and_their_order(self):
        self.asks_rooms(read_journal, "")
        self.asks_rooms(base_only, "")
        self.refused(TooMany, 25, read_journal, (1,) * 25, BASE)
        self.refused(BadRooms, 1, read_journal, (1, 5), BASE)
        self.refused(BadJournal, 0, read_journal, (1, 1, 1), BASE)
        self.refused(BadJournal, 0, read_journal, (0, 1), BASE)


class BaseOnly(Case):

    def test_the_forest_told(self):
        self.assertEqual(base_only(ROOMS, BASE), BASE)
        self.assertEqual(base_only(text=BASE + "1 open 1:- 0:1.0\n2 shut\n", rooms=ROOMS), "0 base 1.0 -\n")
        self.assertEqual(base_only(ROOMS, BASE + "1 lay - -\n2 lay 1.0 -\n3 shut\n"), "0 base 1.0 -\n")
        self.assertEqual(base_only((), "0 base\n1 lay\n2 shut\n"), "0 base\n")

    def test_errors_and_their_order(self):
        self.refused(Pending, 2, base_only, ROOMS, BASE + "1 open 1:-\n")
        self.refused(Pending, 2, base_only, ROOMS, BASE + "1 lay - -\n2 sh")
        self.refused(Torn, 1, base_only, ROOMS, BASE + "1")
        self.refused(Torn, 3, base_only, ROOMS, BASE + "1 lay - -\n2 shut\n ")
        self.refused(BadJournal, 1, base_only, ROOMS, BASE + "1 shut\n2 sh")
