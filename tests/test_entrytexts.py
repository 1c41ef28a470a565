import random

from helper import APART, Case, all_sayings, all_standings, subsets, world_of
from nestsay.entrytexts import book_of, print_entries, print_entry, read_entries, read_entry
from nestsay.errors import (BadName, BadRow, BadSaying, BadText, BadWorld, NoRoom, NoThing, OtherPair, SameThing,
                            TooMany)
from nestsay.sayingtexts import print_saying
from nestsay.worldtexts import read_world
from textlook import RESERVED, Wrong, entry_look, mutants

WORLD = read_world("cap, bag left right, tent door")
ENTRY = ("ann", "s1", (0, 1, (("in", 0),)))
TEXT = "ann s1: cap in bag.left"
BAD_NAMES = (None, 3, "", "A", "1a", "a b", "in", "redo", "abcdefghijklm", ("ann",), True)


class Entry(Case):

    def test_example(self):
        self.assertEqual(print_entry(WORLD, ENTRY), TEXT)
        self.assertEqual(print_entry(entry=ENTRY, world=WORLD), TEXT)
        self.assertEqual(read_entry(WORLD, TEXT), ENTRY)
        self.assertEqual(read_entry(text=" ann   s1 :cap in bag . left", world=WORLD), ENTRY)

    def test_hands_and_names(self):
        saying = (0, 1, ())
        for hand, name in (("a", "a"), ("cap", "bag"), ("left", "abcdefghijkl"), ("yes", "no"), ("z9", "a0")):
            self.assertEqual(read_entry(WORLD, f"{hand} {name}: cap never bag"), (hand, name, saying))
            self.assertEqual(print_entry(WORLD, (hand, name, saying)), f"{hand} {name}: cap never bag")
        for word in RESERVED + ["1", "1a", "abcdefghijklm", ":", "A"]:
            self.refused(BadText, 0, read_entry, WORLD, word + " s1: cap any bag")
            self.refused(BadText, 4, read_entry, WORLD, "ann " + word + ": cap any bag")

    def test_refusals(self):
        for text in ("", "ann", "ann s1", "ann s1:", "ann s1: cap in", "ann s1: (cap in bag"):
            self.refused(BadText, len(text), read_entry, WORLD, text)
        self.refused(BadText, 7, read_entry, WORLD, "ann s1 s2: cap in bag")
        self.refused(BadText, 3, read_entry, WORLD, "ann: cap in bag")
        self.refused(BadText, 18, read_entry, WORLD, "ann s1: cap in bag;")
        self.refused(NoThing, 8, read_entry, WORLD, "ann s1: hat in bag")
        self.refused(SameThing, 15, read_entry, WORLD, "ann s1: cap in cap")
        self.refused(NoRoom, 19, read_entry, WORLD, "ann s1: cap in bag.top")
        self.refused(OtherPair, 29, read_entry, WORLD, "ann s1: cap in bag or cap in tent")

    def test_the_first_wrong_word(self):
        for text in (TEXT, "a a: not (cap any bag or bag around cap.right)", "tent tent: tent in cap"):
            for mutant in mutants(text, ["cap", "bag", "ann", "left"]):
                self.as_read(entry_look, read_entry, WORLD, mutant)

    def test_each_saying_of_small_worlds_is_read_back(self):
        for rooms in ((0, 0), (1, 1), (2, 1, 0)):
            world = world_of(rooms)
            for saying in all_sayings(rooms):
                entry = ("bob", "s9", saying)
                text = print_entry(world, entry)
                self.assertEqual(text, "bob s9: " + print_saying(world, saying))
                self.assertEqual(read_entry(world, text), entry)
                self.assertEqual(entry_look(world, text), entry)

    def test_errors_and_their_order(self):
        self.asks_world(read_entry, None)
        self.asks_world(read_entry, "in")
        self.asks_text(read_entry, WORLD)
        self.asks_world(print_entry, (None, None, None))
        for name in BAD_NAMES:
            self.refused(BadName, name, print_entry, WORLD, (name, 7, None))
            self.refused(BadName, name, print_entry, WORLD, ("ann", name, None))
        for saying in (None, (), (0, 0, ()), (0, 3, ()), (0, 1, (("in", 2),)), (0, 1, (("in", 0), APART)), "cap in bag"):
            self.refused(BadSaying, 0, print_entry, WORLD, ("ann", "s1", saying))
        self.refused(BadWorld, -1, print_entry, None, (None, None, None))


class Entries(Case):

    def test_no_entries(self):
        for world in (WORLD, ((), ())):
            self.assertEqual(read_entries(world, ()), ())
            self.assertEqual(print_entries(world, ()), ())
            self.assertEqual(book_of(world, ()), (tuple(map(len, world[1])), ()))

    def test_several(self):
        texts = (TEXT, "bob s1: tent apart bag", "ann s2: bag any cap")
        entries = (ENTRY, ("bob", "s1", (2, 1, (APART,))), ("ann", "s2", (1, 0, (APART, ("around", 0), ("around", 1)))))
        self.assertEqual(read_entries(WORLD, texts), entries)
        self.assertEqual(read_entries(texts=texts, world=WORLD), entries)
        self.assertEqual(print_entries(WORLD, entries), texts)
        self.assertEqual(print_entries(entries=entries, world=WORLD), texts)
        self.assertEqual(book_of(WORLD, entries), ((0, 2, 1), tuple(entry[2] for entry in entries)))
        self.assertEqual(book_of(entries=entries, world=WORLD), ((0, 2, 1), tuple(entry[2] for entry in entries)))

    def test_a_name_told_twice(self):
        self.refused(BadRow, (1, 4), read_entries, WORLD, (TEXT, TEXT))
        self.refused(BadRow, (2, 7), read_entries, WORLD, (TEXT, "bob s1: cap any bag", "  ann  s1; in in"))
        self.assertEqual(len(read_entries(WORLD, (TEXT, "bob s1: cap any bag", "ann s2: cap any bag"))), 3)
        self.refused(BadRow, (1, 3), read_entries, WORLD, (TEXT, "ann: s1"))
        self.refused(BadRow, (1, 4), read_entries, WORLD, (TEXT, "ann s1"))
        self.refused(BadRow, (1, 12), read_entries, WORLD, (TEXT, "ann s1: cap \n"))
        self.refused(BadRow, (0, 19), read_entries, WORLD, ("ann s1: cap in bag.top", TEXT, TEXT))

    def test_the_what_of_each_error(self):
        for text, what in ((None, -1), (7, -1), ("", 0), ("ann s2: hat in bag", 8), ("ann s2: cap in cap", 15),
                           ("ann s2: cap in bag.top", 19), ("ann s2: cap in bag or cap in tent", 29), ("\n", 0),
                           (" " * 20001, 20000), ("in", 0), ("ann s2: cap in bag)", 18)):
            self.refused(BadRow, (0, what), read_entries, WORLD, (text,))
            self.refused(BadRow, (1, what), read_entries, WORLD, (TEXT, text, None))

    def test_400_and_401(self):
        texts = tuple(f"ann s{at}: cap any bag" for at in range(401))
        with self.quickly():
            entries = read_entries(WORLD, texts[:400])
            self.assertEqual(print_entries(WORLD, entries), texts[:400])
            self.assertEqual(len(book_of(WORLD, entries)[1]), 400)
            self.refused(TooMany, 401, read_entries, WORLD, texts)
            self.refused(TooMany, 401, read_entries, WORLD, (None,) * 401)
            self.refused(TooMany, 401, book_of, WORLD, entries + entries[:1])
            self.refused(TooMany, 500, book_of, WORLD, ((None, None, None),) * 500)
            self.assertEqual(len(print_entries(WORLD, entries + entries)), 800)

    def test_errors_and_their_order(self):
        self.asks_world(read_entries, None)
        self.asks_world(read_entries, (None,))
        for texts in (None, 3, "", TEXT, True):
            self.refused(BadRow, (-1, 0), read_entries, WORLD, texts)
        self.asks_world(print_entries, ((None, None, None),))
        self.refused(BadName, "A", print_entries, WORLD, (ENTRY, ("A", None, None), (None, None, None)))
        self.refused(BadName, 7, print_entries, WORLD, (ENTRY, ("a", 7, None), (None, None, None)))
        self.refused(BadSaying, 0, print_entries, WORLD, (ENTRY, ENTRY, ("a", "b", None), (None, None, None)))
        self.asks_world(book_of, ())
        self.refused(BadSaying, 1, book_of, WORLD, (ENTRY, ("ann", "s1", (0, 3, ())), ("ann", "s1", None)))
        self.refused(BadSaying, 0, book_of, WORLD, (("ann", "s1", None),) * 400)

    def test_any_entries_beside_the_tests_own_look(self):
        dice = random.Random(721)
        rooms = (1, 2, 0)
        world = world_of(rooms)
        every = all_sayings(rooms)
        for _ in range(300):
            texts = tuple(f"{dice.choice(('ann', 'bob'))} s{dice.randrange(6)}: {print_saying(world, dice.choice(every))}"
                          + dice.choice(("",) * 8 + (" or", ")", "\n")) for _ in range(4))
            taken, entries, fault = [], [], None
            for index, text in enumerate(texts):
                try:
                    entries.append(entry_look(world, text, taken))
                except Wrong as why:
                    fault = BadRow, (index, why.fault[1])
                    break
                taken.append(entries[-1][:2])
            if fault:
                self.refused(*fault, read_entries, world, texts)
            else:
                self.assertEqual(read_entries(world, texts), tuple(entries))
                self.assertEqual(print_entries(world, tuple(entries)), texts)

    def test_24_things_and_400_entries(self):
        dice = random.Random(722)
        rooms = (4,) * 24
        entries = []
        for at in range(400):
            x, y = dice.sample(range(24), 2)
            entries.append(("h" + str(at % 7), "s" + str(at), (x, y, dice.choice(subsets(all_standings(rooms, x, y))))))
        with self.quickly():
            texts = print_entries(world_of(rooms), tuple(entries))
            self.assertEqual(read_entries(world_of(rooms), texts), tuple(entries))
            self.assertEqual(book_of(world_of(rooms), tuple(entries)), (rooms, tuple(entry[2] for entry in entries)))
