import random

from helper import APART, Case, all_sayings, all_standings, changed, saying_fault, subsets, world_of
from nestsay.errors import BadSaying, BadWorld
from nestsay.readsaying import read_saying
from nestsay.sayingtexts import print_saying
from nestsay.worldtexts import read_world
from textlook import saying_look

WORLD = read_world("cap, bag left right, tent door, hall a b c d")


def told(world, saying):
    """The text, put together from what is let of each of the three."""
    (names, doors), (x, y, lets) = world, saying
    pieces = []
    for kind, holder in (("apart", None), ("in", y), ("around", x)):
        rooms = [room for each, room in lets if each == kind]
        if not rooms:
            continue
        piece = f"{names[x]} {kind} {names[y]}"
        if holder is not None and rooms != list(range(len(doors[holder]))):
            piece += "." + "/".join(doors[holder][room] for room in rooms)
        pieces.append(piece)
    if len(lets) == 1 + len(doors[x]) + len(doors[y]):
        return f"{names[x]} any {names[y]}"
    return " or ".join(pieces) or f"{names[x]} never {names[y]}"


class Told(Case):

    def test_example(self):
        self.assertEqual(print_saying(WORLD, (0, 1, (APART, ("in", 0)))), "cap apart bag or cap in bag.left")
        self.assertEqual(print_saying(saying=(0, 1, (APART, ("in", 0))), world=WORLD),
                         "cap apart bag or cap in bag.left")

    def test_all_none_all_rooms_some_rooms(self):
        for saying, text in (
                ((0, 1, (APART, ("in", 0), ("in", 1))), "cap any bag"),
                ((0, 1, ()), "cap never bag"),
                ((0, 1, (("in", 0), ("in", 1))), "cap in bag"),
                ((0, 1, (("in", 1),)), "cap in bag.right"),
                ((1, 0, (("around", 1),)), "bag around cap.right"),
                ((1, 0, (("around", 0), ("around", 1))), "bag around cap"),
                ((1, 2, (("in", 0),)), "bag in tent"),
                ((1, 2, (("in", 0), ("around", 0))), "bag in tent or bag around tent.left"),
                ((1, 2, (("in", 0), ("around", 0), ("around", 1))), "bag in tent or bag around tent"),
                ((1, 2, (APART,)), "bag apart tent"),
                ((1, 2, (APART, ("in", 0), ("around", 0), ("around", 1))), "bag any tent"),
                ((2, 1, (APART, ("in", 0), ("in", 1))), "tent apart bag or tent in bag"),
                ((3, 1, (("around", 0), ("around", 2), ("around", 3))), "hall around bag.a/c/d"),
                ((1, 3, (("in", 0), ("in", 3), ("around", 1))), "bag in hall.a/d or bag around hall.right")):
            self.assertEqual(print_saying(WORLD, saying), text)
            self.assertEqual(told(WORLD, saying), text)
            self.assertEqual(read_saying(WORLD, text), saying)

    def test_two_things_without_rooms(self):
        world = read_world("a, b")
        self.assertEqual(print_saying(world, (0, 1, (APART,))), "a any b")
        self.assertEqual(print_saying(world, (1, 0, ())), "b never a")

    def test_each_saying_of_small_worlds_is_read_back(self):
        for rooms in ((0, 0), (1, 0), (1, 1), (2, 1, 0), (4, 2), (3, 3), (0, 4, 1)):
            world = world_of(rooms)
            for saying in all_sayings(rooms):
                text = print_saying(world, saying)
                self.assertEqual(text, told(world, saying))
                self.assertEqual(read_saying(world, text), saying)
                self.assertEqual(saying_look(world, text), saying)

    def test_sayings_of_large_worlds_are_read_back(self):
        dice = random.Random(671)
        rooms = (4, 1, 0, 3) * 6
        world = world_of(rooms)
        with self.quickly():
            for _ in range(400):
                x, y = dice.sample(range(24), 2)
                saying = x, y, dice.choice(subsets(all_standings(rooms, x, y)))
                self.assertEqual(read_saying(world, print_saying(world, saying)), saying)


class Errors(Case):

    def test_errors_and_their_order(self):
        self.asks_world(print_saying, None)
        self.refused(BadWorld, 0, print_saying, (("A",), ((),)), (0, 1, ()))
        for saying in (None, 3, "cap any bag", (), (0, 1), (0, 0, ()), (0, 4, ()), (-1, 0, ()), (0, 1, (("in", 2),)),
                       (0, 1, (("around", 0),)), (0, 1, (("in", 0), APART)), (0, 1, (("in", True),))):
            self.refused(BadSaying, 0, print_saying, WORLD, saying)

    def test_all_kinds_of_values(self):
        world = world_of((2, 1))
        for saying in changed((0, 1, (APART, ("in", 0), ("around", 1)))):
            self.as_told(saying_fault((2, 1), saying), print_saying, world, saying)
