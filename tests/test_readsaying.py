import itertools
import random

from helper import APART, Case, all_standings, world_of
from nestsay.errors import BadText, BadWorld, NoRoom, NoThing, OtherPair, SameThing
from nestsay.readsaying import read_saying
from nestsay.worldtexts import read_world
from textlook import RESERVED, VERBS, mutants, saying_look

WORLD = read_world("a r, b r s, c")
ROOMS = (1, 2, 0)
# The standings of 0 to 1: apart, in 0, in 1, around 0.
ALL = tuple(all_standings(ROOMS, 0, 1))


def random_text(dice, world, pair, plains):
    """A saying's text of the pair, of so many plain sayings at most."""
    if plains < 2 or dice.random() < 0.2:
        x, y = dice.sample(pair, 2)
        verb = dice.choice(VERBS)
        text = f"{world[0][x]} {verb} {world[0][y]}"
        doors = world[1][y if verb == "in" else x]
        if verb in ("in", "around") and doors and dice.random() < 0.6:
            text += "." + "/".join(dice.choices(doors, k=dice.randint(1, 5)))
        return text
    told = [random_text(dice, world, pair, plains // 2) for _ in range(2)]
    text = dice.choice((" and ", " or ")).join(told)
    return dice.choice(("{}", "({})", "not ({})", "not {}", "({} )", "not not({})")).format(text)


class Plain(Case):

    def check(self, text, *told):
        self.assertEqual(read_saying(WORLD, text), told)
        self.assertEqual(saying_look(WORLD, text), told)

    def test_examples(self):
        self.refused(NoRoom, 7, read_saying, WORLD, "a in b.t")
        self.refused(SameThing, 5, read_saying, WORLD, "a in a")
        self.refused(OtherPair, 15, read_saying, WORLD, "a in b or a in c")
        self.check("b in a", 1, 0, (("in", 0),))
        self.check("not b in a", 1, 0, (APART, ("around", 0), ("around", 1)))
        self.assertEqual(read_saying(text="b in a", world=WORLD), (1, 0, (("in", 0),)))

    def test_each_of_the_six(self):
        self.check("a in b", 0, 1, (("in", 0), ("in", 1)))
        self.check("a around b", 0, 1, (("around", 0),))
        self.check("a with b", 0, 1, (("in", 0), ("in", 1), ("around", 0)))
        self.check("a apart b", 0, 1, (APART,))
        self.check("a any b", 0, 1, ALL)
        self.check("a never b", 0, 1, ())
        self.check("b with a", 1, 0, (("in", 0), ("around", 0), ("around", 1)))

    def test_rooms(self):
        self.check("a in b.s", 0, 1, (("in", 1),))
        self.check("a in b.s/r", 0, 1, (("in", 0), ("in", 1)))
        self.check("a in b . s / s/s", 0, 1, (("in", 1),))
        self.check("b around a.s", 1, 0, (("around", 1),))
        self.check("b around a.s/s/r/s", 1, 0, (("around", 0), ("around", 1)))
        self.check("a around b.r", 0, 1, (("around", 0),))

    def test_rooms_of_the_thing_that_is_around(self):
        self.refused(NoRoom, 11, read_saying, WORLD, "a around b.s")
        self.refused(NoRoom, 7, read_saying, WORLD, "b in a.s")
        self.refused(NoRoom, 9, read_saying, WORLD, "a in b.r/t/s")
        self.refused(NoRoom, 7, read_saying, WORLD, "a in c.r")
        self.refused(NoRoom, 11, read_saying, WORLD, "c around a.r")
        self.refused(NoRoom, 7, read_saying, WORLD, "a in b.a")

    def test_a_thing_without_rooms_is_around_nothing(self):
        self.check("a in c", 0, 2, ())
        self.check("c around a", 2, 0, ())
        self.check("c with a", 2, 0, (("in", 0),))
        self.check("not a in c", 0, 2, (APART, ("around", 0)))
        world = read_world("a, b")
        self.assertEqual(read_saying(world, "a with b"), (0, 1, ()))
        self.assertEqual(read_saying(world, "a any b"), (0, 1, (APART,)))

    def test_behind_the_others_there_is_no_room(self):
        for verb in ("with", "apart", "any", "never"):
            self.refused(BadText, 4 + len(verb), read_saying, WORLD, f"a {verb} b.r")
        self.refused(BadText, 8, read_saying, WORLD, "a in b.r.s")
        self.refused(BadText, 6, read_saying, WORLD, "a in b/r")
        self.refused(BadText, 7, read_saying, WORLD, "a in b.")
        self.refused(BadText, 10, read_saying, WORLD, "a in b.r /")

    def test_things_and_rooms_of_one_name(self):
        world = read_world("a b, b a, r r b")
        self.assertEqual(read_saying(world, "a in b.a"), (0, 1, (("in", 0),)))
        self.assertEqual(read_saying(world, "r around b.b/r"), (2, 1, (("around", 0), ("around", 1))))
        self.refused(NoRoom, 7, read_saying, world, "a in b.b")


class Sums(Case):

    def check(self, text, lets, pair=(0, 1)):
        self.assertEqual(read_saying(WORLD, text), pair + (tuple(lets),), text)
        self.assertEqual(saying_look(WORLD, text), pair + (tuple(lets),), text)

    def test_or_and_and(self):
        self.check("a in b.s or a apart b", (APART, ("in", 1)))
        self.check("a with b and a in b", (("in", 0), ("in", 1)))
        self.check("a in b and a around b", ())
        self.check("a in b.r or a apart b and a around b", (("in", 0),))
        self.check("(a in b.r or a apart b) and a around b", ())
        self.check("a apart b and a in b or a around b", (("around", 0),))
        self.check("a any b and a with b and a in b and a in b.s", (("in", 1),))

    def test_in_either_order(self):
        self.check("a in b.s or b in a", (("in", 1), ("around", 0)))
        self.check("b around a.s or a around b", (("in", 0), ("around", 1)), (1, 0))
        self.check("b apart a or a any b and a in b", (APART, ("around", 0), ("around", 1)), (1, 0))

    def test_not_binds_the_part_alone(self):
        self.check("not a in b or a in b.s", (APART, ("in", 1), ("around", 0)))
        self.check("not (a in b or a apart b)", (("around", 0),))
        self.check("not a in b and not a apart b", (("around", 0),))
        self.check("not not a in b.s", (("in", 1),))
        self.check("not(not(a apart b)and not a in b.r)", (APART, ("in", 0)))
        self.check("not a never b", ALL)
        self.check("not a any b", ())

    def test_names_of_things(self):
        self.refused(NoThing, 0, read_saying, WORLD, "d in a")
        self.refused(NoThing, 5, read_saying, WORLD, "a in r")
        self.refused(NoThing, 0, read_saying, WORLD, "thin in thin")
        self.refused(NoThing, 10, read_saying, WORLD, "a in b or d")
        self.refused(SameThing, 15, read_saying, WORLD, "a in b or b in b")
        self.refused(OtherPair, 10, read_saying, WORLD, "a in b or c in c")
        self.refused(OtherPair, 10, read_saying, WORLD, "a in b or c zz")
        self.refused(OtherPair, 15, read_saying, WORLD, "a in b or b in c")
        self.refused(NoThing, 15, read_saying, WORLD, "a in b or b in d")

    def test_20_and_21_open(self):
        for opened in ([["not"] * many for many in (19, 20, 21)] + [["("] * many for many in (19, 20, 21)]
                       + [(["not", "("] * 11)[:many] for many in (19, 20, 21)]
                       + [(["(", "not", "not"] * 7)[:many] for many in (19, 20, 21)]):
            text = " ".join(opened) + " a in b" + " )" * opened.count("(")
            nots = opened.count("not")
            if len(opened) > 20:
                self.refused(BadText, len(" ".join(opened[:20])) + 1, read_saying, WORLD, text)
            else:
                self.check(text, (("in", 0), ("in", 1)) if nots % 2 == 0 else (APART, ("around", 0)))

    def test_a_not_is_open_up_to_the_end_of_its_part(self):
        deep = "not " * 20 + "a in b"
        self.check(deep + " or " + deep + " and " + deep, (("in", 0), ("in", 1)))
        self.check("not (" * 10 + "a in b" + ")" * 10 + " or " + "(" * 20 + "a in b" + ")" * 20, (("in", 0), ("in", 1)))
        text = "(" * 19 + "not a in b and not a around b and (a apart b)" + ")" * 19
        self.check(text, (APART,))
        self.refused(BadText, 31, read_saying, WORLD, "(" * 20 + "a in b and not a in b" + ")" * 20)
        self.refused(BadText, 31, read_saying, WORLD, "(" * 20 + "a in b and (a in b)" + ")" * 20)
        self.refused(BadText, 23, read_saying, WORLD, "(" * 19 + "not (a in b)" + ")" * 19)

    def test_behind_closed_ones_20_can_be_open_again(self):
        for ahead in ("(a in b) and ", "not a in b or ", "(not (a in b) or not not a in b) and ", "not(not(a in b))or "):
            for opened in ("(" * 20, "not " * 20, "(not " * 10):
                text = ahead + opened + "a in b" + ")" * opened.count("(")
                self.assertEqual(read_saying(WORLD, text), saying_look(WORLD, text), text)
                for more in ("(", "not "):
                    self.refused(BadText, len(ahead + opened), read_saying, WORLD, ahead + opened + more + "a in b")

    def test_brackets(self):
        self.refused(BadText, 7, read_saying, WORLD, "(a in b")
        self.refused(BadText, 6, read_saying, WORLD, "a in b)")
        self.refused(BadText, 8, read_saying, WORLD, "(a in b))")
        self.refused(BadText, 1, read_saying, WORLD, "()")
        self.refused(BadText, 4, read_saying, WORLD, "not ")
        self.refused(BadText, 9, read_saying, WORLD, "(a in b) (a in b)")
        self.refused(BadText, 9, read_saying, WORLD, "a in b or")
        self.refused(BadText, 10, read_saying, WORLD, "a in b or and a in b")

    def test_40_and_41_plain_sayings(self):
        for between in (" or ", " and ", " and not "):
            text = between.join(["a in b"] * 40)
            self.assertEqual(read_saying(WORLD, text), saying_look(WORLD, text))
            self.refused(BadText, len(text + between), read_saying, WORLD, text + between + "a in b")
            self.refused(BadText, len(text + between), read_saying, WORLD, text + between + "zz")
            self.refused(BadText, len((text + between).rstrip()), read_saying, WORLD, (text + between).rstrip())
        text = "a in b or " * 40
        self.refused(BadText, len(text) + 5, read_saying, WORLD, text + "(not a in b)")
        self.refused(BadText, len(text) + 1, read_saying, WORLD, text + "(b")
        text = "(a in b or a in b) and " * 19 + "not (a in b or not a in b)"
        self.assertEqual(read_saying(WORLD, text), (0, 1, ()))


class FirstWrongWord(Case):

    def check(self, text, world=WORLD):
        self.as_read(saying_look, read_saying, world, text)

    def test_each_place(self):
        for text in ("a in b", "b around a.r/s", "not (a with b and not b in a.r) or a apart b", "(a any b)",
                     "a never b or (not b around a . s / s and c apart a)"):
            for mutant in mutants(text, ["a", "b", "c", "r", "s", "t"]):
                self.check(mutant)

    def test_each_end(self):
        text = "not (a with b and not b in a.r) or a apart b"
        for at in range(len(text) + 1):
            self.check(text[:at])
            self.check(text[:at] + "  ")
            self.check(text[:at] + "}")

    def test_what_stands_behind_does_not_matter(self):
        for text, error in (("a in a", SameThing), ("a in d", NoThing), ("a in b.t", NoRoom), ("a in b or c", OtherPair),
                            ("a in b)", BadText), ("a in abcdefghijklm", BadText), ("in", BadText)):
            place = max(text.rfind(" "), text.rfind(".")) + 1 if text != "a in b)" else 6
            for more in ("", " ", " in", " (", " ) b", "\x20~", " abcdefghijklm", " or zz in zz"):
                self.refused(error, place, read_saying, WORLD, text + more)

    def test_the_question_of_the_word_stands_behind(self):
        for word in RESERVED + ["abcdefghijklm", "1", "007", "Z", "+", "."]:
            for ahead in ("", "a in ", "a in b or ", "a in b.", "a in b.r/", "not ", "("):
                if word != "not":
                    self.refused(BadText, len(ahead), read_saying, WORLD, ahead + word)
                self.check(ahead + word)

    def test_texts_of_any_kind(self):
        dice = random.Random(661)
        for rooms in ((1, 1), (0, 2), (3, 1, 4), (0, 0, 2)):
            world = world_of(rooms)
            for _ in range(150):
                pair = dice.sample(range(len(rooms)), 2)
                text = random_text(dice, world, pair, dice.choice((1, 2, 4, 8, 16, 40)))
                told = read_saying(world, text)
                self.assertEqual(told, saying_look(world, text), text)
                self.check(text[:dice.randrange(len(text))], world)
                self.check(text + dice.choice((" or ", " and ", "", ")")) + text, world)

    def test_empty_worlds_and_no_words(self):
        for text in ("", "   "):
            self.refused(BadText, len(text), read_saying, WORLD, text)
            self.refused(BadText, len(text), read_saying, ((), ()), text)
        self.refused(NoThing, 0, read_saying, ((), ()), "a in b")
        self.refused(SameThing, 5, read_saying, (("a",), ((),)), "a in a")


class Errors(Case):

    def test_errors_and_their_order(self):
        self.asks_world(read_saying, None)
        self.asks_world(read_saying, "a in a")
        self.asks_text(read_saying, WORLD)
        self.asks_text(read_saying, ((), ()))
        self.refused(BadWorld, -1, read_saying, 3, "\n")

    def test_20000_and_20001_signs(self):
        text = "a in b." + "r/" * 9996 + "s"
        self.assertEqual(len(text), 20000)
        with self.quickly():
            self.assertEqual(read_saying(WORLD, text), (0, 1, (("in", 0), ("in", 1))))
            self.refused(BadText, 20000, read_saying, WORLD, text + "/")
            self.refused(BadText, 20000, read_saying, WORLD, text + "s")
            self.refused(BadText, 19999, read_saying, WORLD, text[:-1] + "/")
            self.refused(BadText, 20000, read_saying, WORLD, text[:-1] + " ")
            self.refused(NoRoom, 19999, read_saying, WORLD, text[:-1] + "t")
            self.refused(BadText, 20, read_saying, WORLD, "(" * 20000)
            self.refused(BadText, 20000, read_saying, WORLD, "(" * 20001)
            text = " or ".join(["(" * 20 + "a in b" + ")" * 20] * 40)
            self.assertEqual(read_saying(WORLD, text + " " * (20000 - len(text))), (0, 1, (("in", 0), ("in", 1))))

    def test_every_two_plain_sayings(self):
        for verbs in itertools.product(VERBS, repeat=2):
            for between, (x, y) in itertools.product(("or", "and", "and not", "or not"), (("a", "b"), ("b", "a"))):
                text = f"a {verbs[0]} b {between} {x} {verbs[1]} {y}"
                self.assertEqual(read_saying(WORLD, text), saying_look(WORLD, text), text)
