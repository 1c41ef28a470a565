from helper import Case, all_forests, all_standings, stands, swapped
from nestsay.errors import BadThing
from nestsay.standings import standing, standings, turned

ROOMS = (2, 1, 0, 1)
FOREST = (None, (0, 1), (1, 0), (0, 0))


class Standings(Case):

    def test_example(self):
        told = (("apart", 0), ("in", 0), ("around", 0), ("around", 1))
        self.assertEqual(standings(ROOMS, 0, 1), told)
        self.assertEqual(standings(y=1, x=0, rooms=ROOMS), told)

    def test_either_order(self):
        self.assertEqual(standings(ROOMS, 1, 0), (("apart", 0), ("in", 0), ("in", 1), ("around", 0)))
        self.assertEqual(standings(ROOMS, 0, 2), (("apart", 0), ("around", 0), ("around", 1)))
        self.assertEqual(standings(ROOMS, 2, 0), (("apart", 0), ("in", 0), ("in", 1)))
        self.assertEqual(standings((0, 0), 1, 0), (("apart", 0),))
        self.assertEqual(standings((4, 4), 0, 1), tuple(all_standings((4, 4), 0, 1)))

    def test_wrong_things(self):
        for x in (-1, 4, 10 ** 900, None, "0", (0,), (), ("in", 0)):
            self.refused(BadThing, x, standings, ROOMS, x, 1)
            self.refused(BadThing, x, standings, ROOMS, 1, x)
            self.refused(BadThing, x, standing, ROOMS, FOREST, x, 1)
            self.refused(BadThing, x, standing, ROOMS, FOREST, 1, x)

    def test_a_thing_and_itself(self):
        for x in range(4):
            self.refused(BadThing, x, standings, ROOMS, x, x)
            self.refused(BadThing, x, standing, ROOMS, FOREST, x, x)

    def test_order_of_errors(self):
        self.asks_rooms(standings, None, None)
        self.asks_rooms(standing, None, None, None)
        self.asks_forest(standing, 9, 9)
        self.refused(BadThing, 7, standings, ROOMS, 7, 8)
        self.refused(BadThing, 7, standing, ROOMS, FOREST, 7, 8)
        self.refused(BadThing, None, standing, ROOMS, FOREST, None, None)


class Turned(Case):

    def test_turned(self):
        self.assertEqual(turned(("apart", 0)), ("apart", 0))
        for room in range(4):
            self.assertEqual(turned(("in", room)), ("around", room))
            self.assertEqual(turned(standing=("around", room)), ("in", room))


class Standing(Case):

    def test_example(self):
        self.assertEqual(standing(ROOMS, FOREST, 2, 0), ("in", 1))
        self.assertEqual(standing(ROOMS, FOREST, 0, 2), ("around", 1))
        self.assertEqual(standing(ROOMS, FOREST, 2, 3), ("apart", 0))
        self.assertEqual(standing(y=0, x=3, forest=FOREST, rooms=ROOMS), ("in", 0))

    def test_deep_forests(self):
        rooms = (4,) * 24
        forest = (None,) + tuple((x, x % 4) for x in range(23))
        for x in range(23):
            self.assertEqual(standing(rooms, forest, 23, x), ("in", x % 4))
            self.assertEqual(standing(rooms, forest, x, 23), ("around", x % 4))
        self.assertEqual(standing(rooms, forest[:12] + (None,) + forest[13:], 23, 0), ("apart", 0))

    def test_all_small_forests(self):
        for rooms in ((1, 1), (2, 0, 1), (1, 1, 1), (1, 2, 1, 0)):
            for forest in all_forests(rooms):
                for x in range(len(rooms)):
                    for y in range(len(rooms)):
                        if x != y:
                            told = standing(rooms, forest, x, y)
                            self.assertEqual(told, stands(forest, x, y))
                            self.assertEqual(standings(rooms, x, y).count(told), 1)
                            self.assertEqual(turned(told), standing(rooms, forest, y, x))
                            self.assertEqual(turned(told), swapped(told))
