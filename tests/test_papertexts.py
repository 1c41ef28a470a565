import random

from helper import ODD, Case, changed, is_lot, is_number, some_books, subsets, world_of
from nestsay.errors import BadPaper, BadText, BadWorld, Missing, NoRoom, NoThing, Twice
from nestsay.kernel import no_right
from nestsay.papers import no_paper
from nestsay.papertexts import print_paper, read_paper
from nestsay.worldtexts import read_world
from textlook import WORDS, mutants, paper_look

WORLD = read_world("a r s, b, c r, d t")
PAPER = ((0, 2, 3), (((2, 3), (3, 2)), ((0, 3), (0,)), ((0, 2), (0,))))
TEXT = "barred a, c, d: a {c d} d c; c {a d} a; d {a c} a"


def is_paper(rooms, paper):
    if type(paper) is not tuple or len(paper) != 2:
        return False
    lot, notes = paper
    if not (type(lot) is tuple and is_lot(rooms, lot) and lot) or type(notes) is not tuple or len(notes) != len(lot):
        return False
    for t, note in zip(lot, notes):
        if type(note) is not tuple or len(note) != 2 or type(note[0]) is not tuple or not is_lot(rooms, note[0]):
            return False
        bars = note[1]
        if type(bars) is not tuple or len(bars) != rooms[t]:
            return False
        if not all(is_number(z) and 0 <= z < len(rooms) for z in bars):
            return False
    return True


def told(world, paper, dice=None):
    """The text; with dice the lot, the notes and each part in any order."""
    names = world[0]

    def mixed(row):
        return dice.sample(list(row), len(row)) if dice else list(row)

    notes = [names[t] + " {" + " ".join(names[x] for x in mixed(part)) + "}" + "".join(" " + names[z] for z in bars)
             for t, (part, bars) in mixed(list(zip(*paper)))]
    return "barred " + ", ".join(names[x] for x in mixed(paper[0])) + ": " + "; ".join(notes)


def some_paper(rooms, dice):
    """Any paper, which need not be right."""
    things = range(len(rooms))
    lot = tuple(sorted(dice.sample(things, dice.randint(1, len(rooms)))))
    return lot, tuple((tuple(sorted(dice.sample(things, dice.randint(0, len(rooms))))),
                       tuple(dice.choices(things, k=rooms[t]))) for t in lot)


class Examples(Case):

    def test_example(self):
        self.assertEqual(print_paper(WORLD, PAPER), TEXT)
        self.assertEqual(print_paper(paper=PAPER, world=WORLD), TEXT)
        self.assertEqual(read_paper(WORLD, TEXT), PAPER)
        self.assertEqual(read_paper(text=TEXT, world=WORLD), PAPER)

    def test_any_order(self):
        for text in ("barred d, a, c: c {d a} a; a {d c} d c; d {c a} a",
                     "barred c,d,a:a{c d}d c;c{a d}a;d{a c}a", " barred a , c , d : a { d c } d c ; d {a c} a ; c {d a} a "):
            self.assertEqual(read_paper(WORLD, text), PAPER)
        self.assertEqual(read_paper(WORLD, TEXT.replace("d c;", "c d;"))[1][0], ((2, 3), (2, 3)))

    def test_empty_parts_and_things_without_rooms(self):
        for text, paper in (("barred b: b {}", ((1,), (((), ()),))),
                            ("barred c: c {} b", ((2,), (((), (1,)),))),
                            ("barred b, c: b {c}; c {b} c", ((1, 2), (((2,), ()), ((1,), (2,))))),
                            ("barred b: b {a b c d}", ((1,), (((0, 1, 2, 3), ()),))),
                            ("barred a: a {} a a", ((0,), (((), (0, 0)),)))):
            self.assertEqual(print_paper(WORLD, paper), text)
            self.assertEqual(read_paper(WORLD, text), paper)
            self.assertIs(no_right((tuple(map(len, WORLD[1])), ()), paper), False)


class Refusals(Case):

    def test_names(self):
        self.refused(NoThing, 7, read_paper, WORLD, "barred r")
        self.refused(NoThing, 10, read_paper, WORLD, "barred a, e: a")
        self.refused(Twice, 10, read_paper, WORLD, "barred a, a")
        self.refused(Twice, 15, read_paper, WORLD, "barred b: b {c c}")
        self.refused(NoThing, 13, read_paper, WORLD, "barred b: b {r}")
        self.refused(NoThing, 10, read_paper, WORLD, "barred b: r {}")
        self.refused(BadText, 10, read_paper, WORLD, "barred b: c {} a")
        self.refused(BadText, 16, read_paper, WORLD, "barred b: b {}; c {} a")
        self.refused(Twice, 16, read_paper, WORLD, "barred b: b {}; b")
        self.refused(BadText, 19, read_paper, WORLD, "barred b, a: b {}; d")
        self.refused(NoThing, 15, read_paper, WORLD, "barred c: c {} r")

    def test_a_bar_too_few(self):
        for word in WORDS + ["s"]:
            if word not in ("zz", "yes", "no", "abcdefghijkl", "s"):
                self.refused(NoRoom, 15, read_paper, WORLD, "barred a: a {} " + word)
                self.refused(NoRoom, 17, read_paper, WORLD, "barred a: a {} b " + word)
            else:
                self.refused(NoThing, 15, read_paper, WORLD, "barred a: a {} " + word)
        for text in ("barred a: a {}", "barred a: a {} b", "barred a: a {c}  ", "barred c: c {}", "barred b, c: c {b}"):
            self.refused(NoRoom, len(text), read_paper, WORLD, text)

    def test_a_bar_too_many(self):
        for name in ("a", "zz", "yes", "r"):
            self.refused(NoRoom, 15, read_paper, WORLD, "barred b: b {} " + name)
            self.refused(NoRoom, 17, read_paper, WORLD, "barred c: c {} a " + name)
            self.refused(NoRoom, 19, read_paper, WORLD, "barred a: a {} b b " + name)
        for word in WORDS + ["&"]:
            if word not in (";", "zz", "yes", "no", "abcdefghijkl"):
                self.refused(BadText, 15, read_paper, WORLD, "barred b: b {} " + word)
                self.refused(BadText, 17, read_paper, WORLD, "barred c: c {} a " + word)

    def test_missing_is_asked_behind_all(self):
        self.refused(Missing, 2, read_paper, WORLD, "barred c, b: b {}")
        self.refused(Missing, 0, read_paper, WORLD, "barred c, b, a: b {}  ")
        self.refused(Missing, 3, read_paper, WORLD, "barred c, d: c {a} b")
        self.refused(BadText, 18, read_paper, WORLD, "barred c, b: b {};")
        self.refused(BadText, 18, read_paper, WORLD, "barred c, b: b {} &")
        self.refused(NoRoom, 18, read_paper, WORLD, "barred c, b: b {} b")

    def test_the_text_ends_too_early(self):
        for text in ("", "  ", "barred", "barred a", "barred a,", "barred a:", "barred b: b", "barred b: b {",
                     "barred b: b {a", "barred b: b {};", "barred b, c: b {} ;  "):
            self.refused(BadText, len(text), read_paper, WORLD, text)

    def test_what_stands_behind_does_not_matter(self):
        for text, error in (("barred a: c", BadText), ("barred a, a", Twice), ("barred a: r", NoThing)):
            for more in ("", " ", " {", " in", " abcdefghijklm", ",,"):
                self.refused(error, 10, read_paper, WORLD, text + more)

    def test_the_first_wrong_word(self):
        for text in (TEXT, "barred b: b {}", "barred c, b: b {}; c {b a} d", "barred d, a: d {a} b; a {} c c", ""):
            for mutant in mutants(text, ["a", "b", "c", "d", "r"]):
                self.as_read(paper_look, read_paper, WORLD, mutant)

    def test_papers_that_are_none(self):
        rooms = tuple(map(len, WORLD[1]))
        for paper in (None, (), ((), ()), ((0,), ()), ((0, 2), PAPER[1]), ((2, 0, 3), PAPER[1]),
                      ((True,), (((), ()),)), ((1,), (((2, 1), ()),)), ((2,), (((), (4,)),)), ((2,), (((), (True,)),)),
                      ((2,), (((), ()),)), ((1,), (((), (1,)),)), ((4,), (((), ()),)), ((1,), ((),)), ((1,), (None,))):
            self.assertIs(is_paper(rooms, paper), False)
            self.refused(BadPaper, 0, print_paper, WORLD, paper)

    def test_all_kinds_of_values(self):
        rooms = (1, 2)
        for paper in (((0, 1), (((1,), (1,)), ((0,), (0, 0)))), ((1,), (((), (0, 1)),))):
            for thing in changed(paper, ODD):
                if is_paper(rooms, thing):
                    self.assertEqual(read_paper(world_of(rooms), print_paper(world_of(rooms), thing)), thing)
                else:
                    self.refused(BadPaper, 0, print_paper, world_of(rooms), thing)

    def test_errors_and_their_order(self):
        self.asks_world(read_paper, None)
        self.asks_world(read_paper, "in")
        self.asks_text(read_paper, WORLD)
        self.asks_world(print_paper, None)
        self.refused(BadWorld, -1, print_paper, None, None)
        self.refused(BadPaper, 0, print_paper, ((), ()), ((), ()))
        self.refused(NoThing, 7, read_paper, ((), ()), "barred a")


class ToldAndReadBack(Case):

    def check(self, world, paper, dice):
        text = print_paper(world, paper)
        self.assertEqual(text, told(world, paper))
        self.assertEqual(read_paper(world, text), paper)
        self.assertEqual(paper_look(world, text), paper)
        self.assertEqual(read_paper(world, told(world, paper, dice)), paper)

    def test_papers_of_small_books(self):
        dice = random.Random(691)
        met = 0
        for rooms, seed in (((1, 1), 692), ((2, 1, 0), 693), ((0, 0, 0), 694), ((1, 2, 0, 1), 695)):
            for book in some_books(rooms, 60, seed):
                paper = no_paper(book)
                if paper is not None:
                    met += 1
                    self.check(world_of(rooms), paper, dice)
        self.assertGreater(met, 50)

    def test_papers_of_any_kind(self):
        dice = random.Random(696)
        for rooms in ((0,), (4,), (1, 1), (2, 1, 0), (4, 0, 3, 1)):
            for _ in range(40):
                self.check(world_of(rooms), some_paper(rooms, dice), dice)

    def test_all_lots_and_parts(self):
        dice = random.Random(697)
        rooms = (1, 0, 2)
        for lot in subsets(range(3))[1:]:
            for part in subsets(range(3)):
                self.check(world_of(rooms), (lot, tuple((part, (0,) * rooms[t]) for t in lot)), dice)

    def test_24_things(self):
        dice = random.Random(698)
        rooms = (4, 4, 0) * 8
        every = tuple(range(24))
        with self.quickly():
            for _ in range(20):
                self.check(world_of(rooms), some_paper(rooms, dice), dice)
            self.check(world_of(rooms), (every, tuple((every, (23,) * many) for many in rooms)), dice)

    def test_20000_signs(self):
        text = "barred b: b {" + " " * 19986 + "}"
        self.assertEqual(read_paper(WORLD, text), ((1,), (((), ()),)))
        self.refused(BadText, 20000, read_paper, WORLD, text + " ")
        with self.quickly():
            self.refused(Twice, 19, read_paper, WORLD, "barred a, b, c, d, a" + ", a" * 6000)
            self.refused(BadText, 10000, read_paper, WORLD, "barred b: " + " " * 9990 + "c")
