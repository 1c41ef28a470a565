import random

from helper import Case, world_of
from nestsay.errors import BadText, Twice
from nestsay.worldtexts import print_world, read_world
from textlook import RESERVED, mutants, world_look

FULL = tuple("abcdefghi" + str(x + 100) for x in range(24)), (("abcdefghij10", "abcdefghij11", "a", "b2"),) * 24


class Reading(Case):

    def check(self, text):
        self.as_read(world_look, read_world, text)

    def test_examples(self):
        world = ("cap", "bag"), ((), ("left", "right"))
        self.assertEqual(print_world(world), "cap, bag left right")
        self.assertEqual(print_world(world=world), "cap, bag left right")
        self.assertEqual(read_world("cap, bag left right"), world)
        self.assertEqual(read_world(text="cap,bag left right"), world)

    def test_an_empty_world(self):
        self.assertEqual(print_world(((), ())), "")
        for many in (0, 1, 7, 20000):
            self.assertEqual(read_world(" " * many), ((), ()))
        self.refused(BadText, 20000, read_world, " " * 20001)

    def test_blanks(self):
        for text in ("  cap ,bag   left right  ", "cap,bag left   right", "cap , bag left right "):
            self.assertEqual(read_world(text), read_world("cap, bag left right"))
        self.assertEqual(read_world("ab c"), (("ab",), (("c",),)))
        self.assertEqual(read_world("abc"), (("abc",), ((),)))

    def test_names(self):
        self.assertEqual(read_world("a, b2 a, abcdefghijkl"), (("a", "b2", "abcdefghijkl"), ((), ("a",), ())))
        for word in ["abcdefghijklm", "1a", "0", "7", "A", "aB", "+", "_", "a_b", "a-b", "{"] + RESERVED:
            self.refused(BadText, {"aB": 1, "a_b": 1, "a-b": 1}.get(word, 0), read_world, word)
            self.check("a " + word)
            self.check("a, " + word)
            self.check("a, b c " + word)

    def test_a_thing_and_a_room_of_one_name(self):
        self.assertEqual(read_world("a a b, b a b"), (("a", "b"), (("a", "b"), ("a", "b"))))
        self.refused(Twice, 3, read_world, "a, a")
        self.refused(Twice, 4, read_world, "a r r")
        self.refused(Twice, 6, read_world, "a, b, a zz .")
        self.refused(Twice, 10, read_world, "a, b r s, b r r")

    def test_4_and_5_rooms(self):
        self.assertEqual(read_world("a b c d e"), (("a",), (("b", "c", "d", "e"),)))
        self.refused(BadText, 10, read_world, "a b c d e f")
        self.refused(BadText, 10, read_world, "a b c d e b")
        self.refused(BadText, 8, read_world, "a b c d A")

    def test_24_and_25_things(self):
        text = ", ".join("t" + str(x) for x in range(24))
        self.assertEqual(len(read_world(text)[0]), 24)
        self.refused(BadText, len(text) + 2, read_world, text + ", u")
        self.refused(BadText, len(text) + 2, read_world, text + ", t0")
        self.refused(BadText, len(text) + 1, read_world, text + ",")
        self.refused(BadText, len(text) + 3, read_world, text + ",  ")

    def test_the_text_ends_too_early(self):
        self.refused(BadText, 2, read_world, "a,")
        self.refused(BadText, 5, read_world, "a,   ")
        self.refused(BadText, 0, read_world, ",")
        self.refused(BadText, 3, read_world, "a, , b")

    def test_what_stands_behind_does_not_matter(self):
        for text in ("a, a", "a b b", "a .", "a,,", "a b c d e f", "in"):
            at = len(text) - 1 if text != "in" else 0
            for more in ("", " ", ", a, a", " in", " {", " abcdefghijklm", "  A A ~"):
                error = Twice if text in ("a, a", "a b b") else BadText
                self.refused(error, at, read_world, text + more)

    def test_signs(self):
        for code in range(300):
            self.check(chr(code))
            self.check("a" + chr(code))
            self.check("ab, c" + chr(code) + "d")
        self.refused(BadText, 1, read_world, "a\x1f")
        self.assertEqual(read_world("a\x20"), (("a",), ((),)))
        for code in (31, 37, 127):
            self.refused(BadText, 4, read_world, "{ a," + chr(code))
        for code in (32, 126):
            self.refused(BadText, 0, read_world, "{ a," + chr(code))

    def test_20000_and_20001_signs(self):
        self.assertEqual(read_world("a" + " " * 19998 + "b"), (("a",), (("b",),)))
        self.refused(BadText, 20000, read_world, "a" + " " * 19999 + "b")
        self.refused(BadText, 20000, read_world, "{" + " " * 20000)
        self.refused(BadText, 0, read_world, "{" + " " * 19999)
        self.refused(BadText, 0, read_world, "a" * 20000)
        self.refused(BadText, 0, read_world, "7" * 20000)

    def test_the_first_wrong_word(self):
        for text in ("", "a", "a, b", "cap, bag left right", "a b c d e, b, c c", "a a, r a r"):
            for mutant in mutants(text, ["a", "b", "cap", "left", "zz9"]):
                self.check(mutant)
                self.check(mutant.replace(" ,", ","))

    def test_24_things_at_each_place(self):
        text = ",".join("t" + str(x) for x in range(24))
        for more in (" a", ",", " ,", ", a", ", t0", " a b c d", " a b c d e", " a a", " in", ";", ""):
            self.check(text + more)
            self.check(text.replace("t22,", "t22" + more + ","))

    def test_errors(self):
        self.asks_text(read_world)
        self.asks_world(print_world)


class ToldAndReadBack(Case):

    def check(self, world):
        text = print_world(world)
        self.assertEqual(read_world(text), world)
        self.assertEqual(world_look(text), world)
        self.assertEqual(read_world(text.replace(" ", "   ")), world)
        self.assertEqual(read_world(text.replace(", ", ",")), world)

    def test_small_worlds(self):
        for rooms in ((), (0,), (4,), (1, 0), (2, 1, 0, 1), (4, 4, 4), (0,) * 24, (4,) * 24, (1, 2, 3, 4) * 6):
            self.check(world_of(rooms))

    def test_any_worlds(self):
        dice = random.Random(641)
        for _ in range(200):
            names = ["".join(dice.choice("abz") for _ in range(dice.randint(1, 11))) + "09"[:dice.randint(0, 1)]
                     for _ in range(30)]
            names = [name for name in dict.fromkeys(names) if name not in RESERVED]
            things = tuple(names[:dice.randint(0, min(24, len(names)))])
            self.check((things, tuple(tuple(dice.sample(names[:8], dice.randint(0, 4))) for _ in things)))

    def test_the_longest_world(self):
        with self.quickly():
            self.assertGreater(len(print_world(FULL)), 700)
            self.check(FULL)
