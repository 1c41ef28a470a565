import itertools
import random

from helper import ODD, Case, all_forests, changed, climb, forest_fault, is_number, is_place, nested, of_parts, rooms_fault
from nestsay.errors import BadCode, BadCut, BadForest, BadYard, Hooked, NoHook, Ring, Within
from nestsay.machine import cut, is_yard, made_code, made_yard, new_yard, off, run, step

ROOMS = (1, 1)
BASE = "0 base - 0.0\n"
YARD = ((None, (0, 0)), None, BASE)
CODE = (("write", "1 open 1:-\n"), ("lift", 1), ("lower", None), ("write", "2 shut\n"))
WRONG_ROWS = (None, 3, "trim", (), ("trim", None), ("trim", ()), ("Trim",), ("trim", "trim"), ("lift",), ("lift", None),
              ("lift", 2), ("lift", -1), ("lift", "0"), ("lift", (0,)), ("lift", 0, 0), ("lift", 10 ** 900),
              ("lower",), ("lower", 0), ("lower", (0,)), ("lower", (2, 0)), ("lower", (0, 1)), ("lower", (0, -1)),
              ("lower", (-1, 0)), ("lower", (0, None)), ("lower", (0, 0, 0)), ("lower", None, None), ("lower", ()),
              ("lower", "-"), ("write",), ("write", ""), ("write", None), ("write", 3), ("write", ("a",)),
              ("write", "a", "b"), ("put", 0), ("", None), (None, None), (("lift",), 0), (0, "lift"))


def yard_fault(rooms, yard):
    """The error, and its what, that made_yard has to raise, None if it has to return."""
    if rooms_fault(rooms):
        return rooms_fault(rooms)
    if type(yard) is not tuple or len(yard) != 3:
        return BadYard, -1
    forest, hook, journal = yard
    if forest_fault(rooms, forest):
        return forest_fault(rooms, forest)
    if hook is not None:
        if not is_number(hook) or not 0 <= hook < len(rooms) or forest[hook] is not None:
            return BadYard, 1
    return None if type(journal) is str else (BadYard, 2)


def is_row(rooms, row):
    if type(row) is not tuple or not row or type(row[0]) is not str:
        return False
    if row[0] == "lift":
        return len(row) == 2 and is_number(row[1]) and 0 <= row[1] < len(rooms)
    if row[0] == "lower":
        return len(row) == 2 and is_place(rooms, None, row[1])
    if row[0] == "write":
        return len(row) == 2 and type(row[1]) is str and row[1] != ""
    return row == ("trim",)


def step_told(yard, row):
    """The yard behind a row, or the error and its what."""
    forest, hook, journal = yard
    places = list(forest)
    if row[0] == "lift":
        if hook is not None:
            return Hooked, hook
        places[row[1]] = None
        return tuple(places), row[1], journal
    if row[0] == "lower":
        if hook is None:
            return NoHook, 0
        holder = row[1] and row[1][0]
        if row[1] and (holder == hook or hook in [each for each, _ in climb(forest, holder)]):
            return Within, holder
        places[hook] = row[1]
        return tuple(places), None, journal
    if row[0] == "write":
        return forest, hook, journal + row[1]
    return forest, hook, "".join(journal.splitlines(True)[:journal.count("\n")])


def some_code(rooms, dice, many):
    places = [None] + [(y, i) for y in range(len(rooms)) for i in range(rooms[y])]
    kinds = ["lift", "lower", "lift", "lower", "write", "trim"] if rooms else ["write", "trim"]
    for _ in range(many):
        kind = dice.choice(kinds)
        if kind == "lift":
            yield kind, dice.randrange(len(rooms))
        elif kind == "lower":
            yield kind, dice.choice(places)
        elif kind == "write":
            yield kind, dice.choice(("a", "\n", "1 sh", "ut\n", "2 lay - -\n3"))
        else:
            yield (kind,)


class Yards(Case):

    def test_yards_are_returned(self):
        for yard in (YARD, ((None, None), 0, ""), ((None, (0, 0)), 0, "x"), (((1, 0), None), 1, "\n"),
                     ((None, None), None, "what it is")):
            self.assertEqual(made_yard(ROOMS, yard), yard)
            self.assertIs(is_yard(ROOMS, yard), True)
        self.assertEqual(made_yard(yard=((), None, ""), rooms=()), ((), None, ""))
        self.assertIs(is_yard(yard=((), None, ""), rooms=()), True)

    def test_errors_and_their_order(self):
        self.asks_rooms(made_yard, None)
        for yard in (None, 3, "abc", (), ((None, None), None), YARD + (None,), [YARD]):
            self.refused(BadYard, -1, made_yard, ROOMS, yard)
        self.asks_forest(lambda rooms, forest: made_yard(rooms, (forest, None, "")))
        self.asks_forest(lambda rooms, forest: made_yard(rooms, (forest, 7, None)))
        for hook in (2, -1, "0", (0,), 1, 10 ** 900, ""):
            self.refused(BadYard, 1, made_yard, ROOMS, ((None, (0, 0)), hook, BASE))
            self.refused(BadYard, 1, made_yard, ROOMS, ((None, (0, 0)), hook, None))
        for journal in (None, 3, (), ("",), 0):
            self.refused(BadYard, 2, made_yard, ROOMS, ((None, (0, 0)), 0, journal))
            self.refused(BadYard, 2, made_yard, ROOMS, ((None, (0, 0)), None, journal))

    def test_true_and_false_are_no_things(self):
        self.assertIs(is_yard(ROOMS, ((None, None), False, "")), False)
        self.assertIs(is_yard(ROOMS, ((None, None), True, "")), False)
        self.assertIs(is_yard(ROOMS, ((None, (False, 0)), None, "")), False)
        self.assertIs(is_yard(ROOMS, ((None, (0, False)), None, "")), False)
        self.assertIs(is_yard((True, 1), ((None, None), None, "")), False)

    def test_any_value_is_judged(self):
        for value in (YARD, ((None, (0, 0)), 0, "x")):
            for yard in changed(value):
                fault = yard_fault(ROOMS, yard)
                self.assertIs(is_yard(ROOMS, yard), fault is None, yard)
                self.as_told(fault, made_yard, ROOMS, yard)
            for rooms in changed(ROOMS):
                fault = yard_fault(rooms, value)
                self.assertIs(is_yard(rooms, value), fault is None, rooms)
                self.as_told(fault, made_yard, rooms, value)
        for yard in (nested(50), of_parts(9999), (of_parts(9000), None, ""), (YARD[0], of_parts(9000), "")):
            self.assertIs(is_yard(ROOMS, yard), False)
        for rooms, yard in itertools.product(ODD, ODD):
            self.assertIs(is_yard(rooms, yard), yard_fault(rooms, yard) is None)

    def test_new_yards(self):
        self.assertEqual(new_yard(ROOMS, (None, (0, 0))), YARD)
        self.assertEqual(new_yard(forest=(), rooms=()), ((), None, "0 base\n"))
        self.asks_rooms(new_yard, None)
        self.asks_forest(new_yard)


class Code(Case):

    def test_code_is_returned(self):
        for code in ((), CODE, (("trim",),), (("lower", (1, 0)), ("lower", None), ("lift", 0)), (("write", " "),) * 9):
            self.assertEqual(made_code(ROOMS, code), code)
        self.assertEqual(made_code(code=(), rooms=()), ())

    def test_errors_and_their_order(self):
        self.asks_rooms(made_code, None)
        for code in (None, 3, "trim", ""):
            self.refused(BadCode, -1, made_code, ROOMS, code)
            self.refused(BadCode, -1, run, ROOMS, YARD, code)
            self.refused(BadCode, -1, cut, ROOMS, YARD, code, None, None)
        for row in WRONG_ROWS:
            self.refused(BadCode, 0, made_code, ROOMS, (row,))
            self.refused(BadCode, 4, made_code, ROOMS, CODE + (row, None))
            self.refused(BadCode, 0, step, ROOMS, YARD, row)
            self.refused(BadCode, 1, run, ROOMS, YARD, (("lower", None), row))
            self.refused(BadCode, 4, cut, ROOMS, YARD, CODE + (row,), 9, 9)
        self.refused(BadCode, 0, made_code, ROOMS, ("trim",))
        self.refused(BadCode, 0, made_code, (), (("lift", 0),))
        self.refused(BadCode, 0, made_code, (0,), (("lower", (0, 0)),))


class Steps(Case):

    def test_example(self):
        lifted = ((None, None), 1, BASE)
        self.assertEqual(step(ROOMS, YARD, ("lift", 1)), lifted)
        self.assertEqual(step(ROOMS, lifted, ("lower", None)), ((None, None), None, BASE))
        at = step(ROOMS, ((None, None), None, BASE), ("lift", 0))
        self.assertEqual(step(row=("lower", (1, 0)), yard=at, rooms=ROOMS), (((1, 0), None), None, BASE))
        held = step(ROOMS, YARD, ("lift", 0))
        self.assertEqual(held, ((None, (0, 0)), 0, BASE))
        self.refused(Within, 1, step, ROOMS, held, ("lower", (1, 0)))
        self.refused(Within, 0, step, ROOMS, held, ("lower", (0, 0)))

    def test_what_lies_within_hangs_with_it(self):
        rooms = (1, 1, 1, 1)
        yard = (((3, 0), (0, 0), (1, 0), None), None, "")
        held = step(rooms, yard, ("lift", 0))
        self.assertEqual(held, ((None, (0, 0), (1, 0), None), 0, ""))
        self.refused(Within, 2, step, rooms, held, ("lower", (2, 0)))
        self.refused(Within, 1, step, rooms, held, ("lower", (1, 0)))
        self.assertEqual(step(rooms, held, ("lower", (3, 0))), yard)
        self.assertEqual(step(rooms, held, ("lower", None)), ((None, (0, 0), (1, 0), None), None, ""))

    def test_lifting_twice_and_lowering_nothing(self):
        held = ((None, None), 1, BASE)
        self.refused(Hooked, 1, step, ROOMS, held, ("lift", 0))
        self.refused(Hooked, 1, step, ROOMS, held, ("lift", 1))
        self.refused(NoHook, 0, step, ROOMS, YARD, ("lower", None))
        self.refused(NoHook, 0, step, ROOMS, YARD, ("lower", (1, 0)))

    def test_writing_and_trimming(self):
        self.assertEqual(step(ROOMS, YARD, ("write", "1 sh")), (YARD[0], None, BASE + "1 sh"))
        self.assertEqual(step(ROOMS, ((None, None), 1, "a"), ("write", "\n")), ((None, None), 1, "a\n"))
        for journal, left in (("", ""), ("0 base", ""), (BASE, BASE), (BASE + "1 sh", BASE), ("\n", "\n"), ("a\n\nb", "a\n\n"),
                              ("a\rb", ""), ("a\n\u2028", "a\n"), ("\na", "\n")):
            self.assertEqual(step(ROOMS, (YARD[0], None, journal), ("trim",)), (YARD[0], None, left))
            self.assertEqual(step(ROOMS, ((None, None), 0, journal), ("trim",)), ((None, None), 0, left))

    def test_errors_and_their_order(self):
        self.asks_rooms(step, None, None)
        self.asks_rooms(run, None, None)
        for function, rest in ((step, (None,)), (run, (None,)), (cut, (None, None, None))):
            self.refused(BadYard, -1, function, ROOMS, None, *rest)
            self.refused(BadForest, -1, function, ROOMS, (None, 7, None), *rest)
            self.refused(Ring, 0, function, ROOMS, (((1, 0), (0, 0)), None, None), *rest)
            self.refused(BadYard, 1, function, ROOMS, ((None, None), 2, None), *rest)
            self.refused(BadYard, 2, function, ROOMS, ((None, None), 1, None), *rest)

    def test_all_steps_of_small_yards(self):
        for rooms in ((1,), (1, 1), (2, 1, 0), (1, 1, 1)):
            rows = [("trim",), ("write", "x\ny")] + [("lift", x) for x in range(len(rooms))]
            rows += [("lower", place) for place in [None] + [(y, i) for y in range(len(rooms)) for i in range(rooms[y])]]
            for forest in all_forests(rooms):
                for hook in [None] + [x for x in range(len(rooms)) if forest[x] is None]:
                    for row in rows:
                        self.check((rooms, (forest, hook, "a\nb"), row))

    def check(self, told):
        rooms, yard, row = told
        behind = step_told(yard, row)
        if len(behind) == 2:
            self.refused(behind[0], behind[1], step, *told)
            self.refused(behind[0], behind[1], run, rooms, yard, (row,))
        else:
            self.assertEqual(step(*told), behind)
            self.assertIs(is_yard(rooms, behind), True)


class Run(Case):

    def test_code_of_a_deed(self):
        code = (("write", "1 open 1:- 0:1.0\n"), ("lift", 1), ("lower", None), ("lift", 0), ("lower", (1, 0)),
                ("write", "2 shut\n"))
        behind = (((1, 0), None), None, BASE + "1 open 1:- 0:1.0\n2 shut\n")
        self.assertEqual(run(ROOMS, YARD, code), behind)
        self.assertEqual(run(code=code, yard=YARD, rooms=ROOMS), behind)

    def test_no_code(self):
        self.assertEqual(run(ROOMS, YARD, ()), YARD)
        self.assertEqual(run((), ((), None, ""), ()), ((), None, ""))
        self.assertEqual(run((), ((), None, ""), (("write", "a"), ("trim",))), ((), None, ""))

    def test_the_first_step_that_is_refused(self):
        self.refused(Hooked, 1, run, ROOMS, YARD, (("lift", 1), ("lift", 0), ("lift", 1)))
        self.refused(NoHook, 0, run, ROOMS, YARD, (("lift", 1), ("lower", None), ("lower", None)))
        self.refused(Within, 1, run, ROOMS, YARD, (("lift", 0), ("lower", (1, 0)), ("lower", (0, 0))))
        self.refused(BadCode, 2, run, ROOMS, YARD, (("lower", None), ("lift", 1), ("lift", 2)))

    def test_some_code(self):
        dice = random.Random(161)
        for rooms in ((), (1,), (1, 1), (2, 1, 0), (1, 2, 1, 1)):
            forests = all_forests(rooms)
            for _ in range(150):
                yard = (dice.choice(forests), None, dice.choice(("", "a", "a\n")))
                code = tuple(some_code(rooms, dice, dice.randrange(7)))
                at = yard
                for row in code:
                    at = step_told(at, row)
                    if len(at) == 2:
                        break
                if len(at) == 2:
                    self.refused(at[0], at[1], run, rooms, yard, code)
                else:
                    self.assertEqual(run(rooms, yard, code), at)


class Cuts(Case):

    def test_off(self):
        self.assertEqual(off(YARD), YARD)
        self.assertEqual(off(((None, (0, 0)), 0, "x")), ((None, (0, 0)), None, "x"))
        self.assertEqual(off(yard=((), None, "")), ((), None, ""))

    def test_examples(self):
        self.assertEqual(cut(ROOMS, YARD, CODE, 2, 0), ((None, None), None, BASE + "1 open 1:-\n"))
        self.assertEqual(cut(ROOMS, YARD, CODE, 0, 4), ((None, (0, 0)), None, BASE + "1 op"))
        self.assertEqual(cut(signs=4, rows=0, code=CODE, yard=YARD, rooms=ROOMS), ((None, (0, 0)), None, BASE + "1 op"))
        self.refused(BadCut, 1, cut, ROOMS, YARD, CODE, 1, 1)
        self.refused(BadCut, 1, cut, ROOMS, YARD, CODE, 4, 1)
        self.refused(BadCut, 0, cut, ROOMS, YARD, CODE, 5, 0)

    def test_no_rows_and_all_rows(self):
        self.assertEqual(cut(ROOMS, YARD, CODE, 0, 0), YARD)
        self.assertEqual(cut(ROOMS, YARD, CODE, 4, 0), run(ROOMS, YARD, CODE))
        self.assertEqual(cut(ROOMS, YARD, (), 0, 0), YARD)
        self.assertEqual(cut(ROOMS, ((None, None), 1, ""), (), 0, 0), ((None, None), None, ""))
        self.assertEqual(cut((), ((), None, ""), (("trim",),), 1, 0), ((), None, ""))

    def test_each_number_of_rows_and_signs(self):
        for rows in range(len(CODE) + 1):
            text = dict([CODE[rows]]).get("write", "") if rows < len(CODE) else ""
            forest, hook, journal = run(ROOMS, YARD, CODE[:rows])
            for signs in range(max(1, len(text))):
                self.assertEqual(cut(ROOMS, YARD, CODE, rows, signs), (forest, None, journal + text[:signs]))
            for signs in (-1, max(1, len(text)), len(text) + 1, 10 ** 900, None, "1", (0,)):
                self.refused(BadCut, 1, cut, ROOMS, YARD, CODE, rows, signs)

    def test_a_text_of_one_sign(self):
        code = (("write", "\n"), ("trim",))
        self.assertEqual(cut(ROOMS, YARD, code, 0, 0), YARD)
        self.assertEqual(cut(ROOMS, YARD, code, 1, 0), (YARD[0], None, BASE + "\n"))
        self.refused(BadCut, 1, cut, ROOMS, YARD, code, 0, 1)
        self.refused(BadCut, 1, cut, ROOMS, YARD, code, 1, 1)

    def test_errors_and_their_order(self):
        self.asks_rooms(cut, None, None, None, None)
        for rows in (-1, 5, None, "0", (0,), 10 ** 900):
            self.refused(BadCut, 0, cut, ROOMS, YARD, CODE, rows, None)
        twice = (("lift", 0), ("lift", 1), ("write", "ab"), ("lower", (0, 0)))
        self.assertEqual(cut(ROOMS, YARD, twice, 1, 0), YARD)
        self.refused(Hooked, 0, cut, ROOMS, YARD, twice, 2, 0)
        self.refused(Hooked, 0, cut, ROOMS, YARD, twice, 2, 1)
        self.refused(BadCut, 1, cut, ROOMS, YARD, twice, 2, 2)
        self.refused(BadCut, 0, cut, ROOMS, YARD, twice, 5, 0)
        # A row behind the cut is not done.
        self.assertEqual(cut(ROOMS, YARD, (("lower", None),), 0, 0), YARD)
        self.refused(NoHook, 0, cut, ROOMS, YARD, (("lower", None),), 1, 0)
