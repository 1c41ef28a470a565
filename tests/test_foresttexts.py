import itertools
import random

from helper import Case, all_forests, changed, forest_fault, world_of
from test_quick import some_forest
from nestsay.errors import BadForest, BadText, BadWorld, Missing, NoRoom, NoThing, Ring, Twice
from nestsay.foresttexts import print_forest, read_forest
from nestsay.worldtexts import read_world
from textlook import WORDS, forest_look, mutants

WORLD = read_world("cap, pump, lamp, bag left right, tent door")
FOREST = ((3, 0), (3, 0), (3, 1), None, None)


class Examples(Case):

    def test_example(self):
        self.assertEqual(print_forest(WORLD, FOREST), "bag[cap pump|lamp] tent[]")
        self.assertEqual(print_forest(forest=FOREST, world=WORLD), "bag[cap pump|lamp] tent[]")
        self.assertEqual(read_forest(WORLD, "bag[cap pump|lamp] tent[]"), FOREST)
        self.assertEqual(read_forest(text="bag[cap pump|lamp] tent[]", world=WORLD), FOREST)

    def test_any_order_and_blanks(self):
        for text in ("tent[]bag[pump cap|lamp]", " tent [ ] bag [ pump   cap | lamp ] ", "bag[cap pump|lamp]tent[]"):
            self.assertEqual(read_forest(WORLD, text), FOREST)

    def test_an_empty_world(self):
        self.assertEqual(print_forest(((), ()), ()), "")
        for text in ("", " ", "    "):
            self.assertEqual(read_forest(((), ()), text), ())
        self.refused(NoThing, 0, read_forest, ((), ()), "a")
        self.refused(BadText, 0, read_forest, ((), ()), "[")

    def test_things_without_rooms(self):
        world = read_world("a, b, c")
        self.assertEqual(print_forest(world, (None,) * 3), "a b c")
        self.assertEqual(read_forest(world, "c a b"), (None,) * 3)
        self.refused(NoRoom, 1, read_forest, world, "a[b c]")
        self.refused(NoRoom, 2, read_forest, world, "a [")
        self.refused(BadText, 1, read_forest, world, "a{}")
        self.refused(BadText, 2, read_forest, world, "a ]")
        self.refused(NoRoom, 12, read_forest, WORLD, "bag[tent[cap[")

    def test_things_with_four_rooms(self):
        world = read_world("x a b c d, y r")
        self.assertEqual(print_forest(world, (None, (0, 2))), "x[||y[]|]")
        self.assertEqual(read_forest(world, "y[x[|||]]"), ((1, 0), None))


class Refusals(Case):

    def test_right_behind_a_thing_with_rooms(self):
        for word in WORDS + ["cap", "bag", "tent"]:
            if word != "[":
                self.refused(NoRoom, 4, read_forest, WORLD, "bag " + word)
                self.refused(NoRoom, 9, read_forest, WORLD, "bag[tent " + word + "]]")
        for text in ("bag", "bag  ", "tent[bag ", "cap bag[ lamp tent"):
            self.refused(NoRoom, len(text), read_forest, WORLD, text)

    def test_signs_between_rooms(self):
        self.refused(NoRoom, 13, read_forest, WORLD, "bag[cap|lamp | pump]")
        self.refused(NoRoom, 8, read_forest, WORLD, "bag[cap ] tent[]")
        self.refused(NoRoom, 5, read_forest, WORLD, "tent[|]")
        self.refused(NoRoom, 10, read_forest, WORLD, "bag[tent[]]")
        self.refused(NoRoom, 9, read_forest, WORLD, "bag[tent[|]|]")
        self.refused(BadText, 0, read_forest, WORLD, "|")
        self.refused(BadText, 4, read_forest, WORLD, "cap | bag[|]")
        self.refused(BadText, 6, read_forest, WORLD, "tent[]]")
        self.refused(BadText, 7, read_forest, WORLD, "tent[] []")
        self.refused(BadText, 0, read_forest, WORLD, "[cap]")
        self.refused(BadText, 4, read_forest, WORLD, "bag[[cap]|]")
        self.refused(BadText, 5, read_forest, WORLD, "bag[|[cap]]")

    def test_names(self):
        self.refused(NoThing, 4, read_forest, WORLD, "cap left")
        self.refused(Twice, 4, read_forest, WORLD, "cap cap")
        self.refused(Twice, 4, read_forest, WORLD, "bag[bag[|]|]")
        self.refused(Twice, 10, read_forest, WORLD, "bag[cap|] cap bag")
        for word in ("in", "abcdefghijklm", "7", "A", ",", "barred"):
            self.refused(BadText, 4, read_forest, WORLD, "cap " + word)
            self.refused(BadText, 8, read_forest, WORLD, "bag[cap " + word + "]")

    def test_the_text_ends_where_a_room_is_open(self):
        for text in ("bag[", "bag[cap", "bag[cap|", "bag[|lamp  ", "tent[bag[|]", "cap tent[bag[|tent"):
            error = Twice if text.endswith("bag[|tent") else BadText
            self.refused(error, 14 if error is Twice else len(text), read_forest, WORLD, text)

    def test_missing_is_asked_behind_all(self):
        self.refused(Missing, 0, read_forest, WORLD, "")
        self.refused(Missing, 1, read_forest, WORLD, "cap lamp")
        self.refused(Missing, 2, read_forest, WORLD, "tent[] pump cap")
        self.refused(Missing, 4, read_forest, WORLD, "bag[lamp|pump cap]")
        self.refused(BadText, 9, read_forest, WORLD, "bag[lamp|")
        self.refused(BadText, 4, read_forest, WORLD, "cap ;")

    def test_what_stands_behind_does_not_matter(self):
        for text, error in (("cap cap", Twice), ("cap left", NoThing), ("bag cap", NoRoom), ("cap in", BadText)):
            for more in ("", " ", " [", " in", " abcdefghijklm", " }"):
                self.refused(error, 4, read_forest, WORLD, text + more)

    def test_the_first_wrong_word(self):
        for text in ("bag[cap pump|lamp] tent[]", "tent[bag[|pump lamp cap]]", "cap pump lamp tent[] bag[|]", ""):
            for mutant in mutants(text, ["cap", "pump", "lamp", "bag", "tent", "left"]):
                self.as_read(forest_look, read_forest, WORLD, mutant)
        for world in (((), ()), world_of((0, 4)), world_of((1, 1, 1))):
            for many in range(5):
                for row in itertools.product(("a", "b", "[", "]", "|", "in"), repeat=many):
                    self.as_read(forest_look, read_forest, world, " ".join(row))

    def test_errors_and_their_order(self):
        self.asks_world(read_forest, None)
        self.asks_world(read_forest, "in")
        self.asks_text(read_forest, WORLD)
        self.asks_text(read_forest, ((), ()))
        self.asks_world(print_forest, None)
        self.asks_forest(lambda rooms, forest: print_forest(world_of(rooms), forest))
        self.refused(BadWorld, -1, print_forest, None, None)
        self.refused(BadForest, -1, print_forest, WORLD, ())
        self.refused(BadForest, 1, print_forest, WORLD, (None, (2, 0), None, None, None))
        self.refused(Ring, 3, print_forest, WORLD, (None, None, None, (4, 0), (3, 1)))

    def test_all_kinds_of_values(self):
        for forest in changed(((1, 0), None, (0, 1))):
            self.as_told(forest_fault((2, 1, 0), forest), print_forest, world_of((2, 1, 0)), forest)


class ToldAndReadBack(Case):

    def check(self, world, forest, dice):
        text = print_forest(world, forest)
        self.assertEqual(read_forest(world, text), forest)
        self.assertEqual(forest_look(world, text), forest)
        self.assertEqual(text, told(world, forest, None, sorted))
        other = told(world, forest, None, lambda row: dice.sample(row, len(row)))
        self.assertEqual(read_forest(world, other), forest)

    def test_small_forests(self):
        dice = random.Random(681)
        for rooms in ((), (0,), (4,), (0, 0), (1, 1), (2, 1, 0), (1, 1, 1), (4, 0, 0), (1, 2, 0, 1)):
            for forest in all_forests(rooms):
                self.check(world_of(rooms), forest, dice)

    def test_24_things(self):
        dice = random.Random(682)
        with self.quickly():
            for rooms in ((4,) * 24, (1,) * 24, (4,) * 23 + (1,)):
                for _ in range(20):
                    self.check(world_of(rooms), some_forest(rooms, dice), dice)
                chain = (None,) + tuple((x, 0) for x in range(23))
                self.check(world_of(rooms), chain, dice)
                self.check(world_of(rooms), (None,) * 24, dice)

    def test_20000_signs(self):
        text = "bag[cap pump|lamp] tent[" + " " * 19975 + "]"
        self.assertEqual(read_forest(WORLD, text), FOREST)
        self.refused(BadText, 20000, read_forest, WORLD, text + "]")
        with self.quickly():
            self.refused(Twice, 4, read_forest, WORLD, "cap " * 5000)
            self.refused(BadText, 0, read_forest, WORLD, "[" * 20000)


def told(world, forest, place, in_order):
    """The text of what lies right at the place, each row of things put in order."""
    pieces = []
    for x in in_order([x for x in range(len(forest)) if forest[x] == place]):
        rooms = "|".join(told(world, forest, (x, room), in_order) for room in range(len(world[1][x])))
        pieces.append(world[0][x] + ("[" + rooms + "]" if world[1][x] else ""))
    return " ".join(pieces)
