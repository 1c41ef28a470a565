import itertools

from helper import Case, ODD, all_forests, changed, climb, forest_fault, is_place, nested, of_parts
from nestsay.errors import BadForest, BadPlace, BadRooms, BadThing, Refused, Ring, Within
from nestsay.forests import around_of, beneath, hung, is_forest, made_forest

ROOMS = (2, 1, 0, 1)
FOREST = (None, (0, 1), (1, 0), (0, 0))
CHAIN = (None,) + tuple((x, 0) for x in range(23))


class MadeForest(Case):

    def test_forests_are_returned(self):
        for rooms, forest in (((), ()), ((0,), (None,)), (ROOMS, FOREST), (ROOMS, (None,) * 4),
                              ((4, 0), (None, (0, 3))), ((1,) * 24, CHAIN),
                              ((1, 1, 1), ((2, 0), (2, 0), None)), ((1,) * 24, (None,) * 24)):
            self.assertEqual(made_forest(rooms, forest), forest)
            self.assertIs(is_forest(rooms, forest), True)
        self.assertEqual(made_forest(forest=FOREST, rooms=ROOMS), FOREST)
        self.assertIs(is_forest(forest=FOREST, rooms=ROOMS), True)

    def test_no_tuple_or_of_another_length(self):
        for forest in (None, True, 0, "", "ab", (), (None,), (None,) * 3, of_parts(9000)):
            self.refused(BadForest, -1, made_forest, (1, 1), forest)
            self.assertIs(is_forest((1, 1), forest), False)
        self.refused(BadForest, -1, made_forest, (), (None,))
        self.refused(BadForest, -1, made_forest, (1,), ())

    def test_the_first_wrong_place(self):
        wrong = (0, -1, True, "", "floor", "00", (), (0,), (0, 0, 0), (0, 1), (0, -1), (1, 0), (2, 0), (-1, 0),
                 (0, None), (None, 0), (0, "0"), ("0", 0), (0, (0,)), ((0,), 0), (0, 10 ** 900), (10 ** 900, 0),
                 nested(47))
        for place in wrong:
            self.refused(BadForest, 1, made_forest, (1, 1), (None, place))
            self.assertIs(is_forest((1, 1), (None, place)), False, place)
        self.refused(BadForest, 0, made_forest, (1, 1, 1), ((1, 1), (2, 0), 7))
        self.refused(BadForest, 2, made_forest, (2, 0, 1), (None, (0, 1), (1, 0)))
        self.refused(BadForest, 1, made_forest, (2, 1), (None, (0, 2)))

    def test_true_and_false_are_no_numbers(self):
        self.refused(BadForest, 1, made_forest, (2, 1), (None, (0, True)))
        self.refused(BadForest, 1, made_forest, (2, 1), (None, (0, False)))
        self.refused(BadForest, 1, made_forest, (2, 1), (None, (False, 0)))
        self.refused(BadForest, 0, made_forest, (2, 1), ((True, 0), None))

    def test_rings(self):
        self.refused(Ring, 1, made_forest, (1, 1, 1), (None, (2, 0), (1, 0)))
        self.refused(Ring, 1, made_forest, (1, 1, 1), ((1, 0), (2, 0), (1, 0)))
        self.refused(Ring, 0, made_forest, (1, 1, 1), ((1, 0), (2, 0), (0, 0)))
        self.refused(Ring, 0, made_forest, (1, 1), ((1, 0), (0, 0)))
        self.refused(Ring, 2, made_forest, (1,) * 6, ((1, 0), (2, 0), (3, 0), (2, 0), (5, 0), (4, 0)))
        self.refused(Ring, 0, made_forest, (1,) * 24, ((23, 0),) + CHAIN[1:])
        self.refused(Ring, 22, made_forest, (1,) * 24, (None,) * 22 + ((23, 0), (22, 0)))

    def test_a_wrong_place_comes_ahead_of_a_ring(self):
        self.refused(BadForest, 2, made_forest, (1, 1, 1), ((1, 0), (0, 0), 0))

    def test_rooms_come_ahead_of_the_forest(self):
        self.asks_rooms(made_forest, None)
        self.asks_rooms(made_forest, ((1, 0), (0, 0)))
        for rooms in (None, 1, "", (5,), (True,), (0,) * 25):
            for forest in (None, (), (None,)):
                self.assertIs(is_forest(rooms, forest), False)
        self.refused(BadRooms, 0, made_forest, (5,), (None,))

    def test_all_small_forests_and_no_others(self):
        for rooms in ((), (2,), (1, 1), (2, 0, 1), (1, 1, 1)):
            many = 0
            places = [None] + [(y, r) for y in range(len(rooms)) for r in range(3)]
            for forest in itertools.product(places, repeat=len(rooms)):
                fault = forest_fault(rooms, forest)
                self.assertIs(is_forest(rooms, forest), fault is None)
                self.as_told(fault, made_forest, rooms, forest)
                many += fault is None
            self.assertEqual(many, len(all_forests(rooms)))

    def test_any_value_is_judged(self):
        for forest in changed((None, (0, 1), (1, 0))):
            fault = forest_fault((2, 1, 1), forest)
            self.assertIs(is_forest((2, 1, 1), forest), fault is None, forest)
            self.as_told(fault, made_forest, (2, 1, 1), forest)
        for rooms in changed((2, 1)):
            for forest in ((None, (0, 1)), (None, None), (), (None,), None, ((1, 0), (0, 0))):
                fault = forest_fault(rooms, forest)
                self.assertIs(is_forest(rooms, forest), fault is None, (rooms, forest))
                self.as_told(fault, made_forest, rooms, forest)


class Around(Case):

    def test_example(self):
        self.assertEqual(around_of(ROOMS, FOREST, 2), (1, 0))
        self.assertEqual(around_of(ROOMS, FOREST, 0), ())
        self.assertEqual(around_of(x=3, forest=FOREST, rooms=ROOMS), (0,))
        self.assertEqual(beneath(ROOMS, FOREST, 0), (1, 2, 3))
        self.assertEqual(beneath(ROOMS, FOREST, 2), ())
        self.assertEqual(beneath(x=1, forest=FOREST, rooms=ROOMS), (2,))

    def test_deep_forests(self):
        self.assertEqual(around_of((1,) * 24, CHAIN, 23), tuple(range(22, -1, -1)))
        self.assertEqual(beneath((1,) * 24, CHAIN, 0), tuple(range(1, 24)))
        self.assertEqual(beneath((1,) * 24, CHAIN, 22), (23,))
        turned = tuple((x + 1, 0) for x in range(23)) + (None,)
        self.assertEqual(around_of((1,) * 24, turned, 0), tuple(range(1, 24)))
        self.assertEqual(beneath((1,) * 24, turned, 23), tuple(range(23)))

    def test_all_small_forests(self):
        for rooms in ((1,), (1, 1), (2, 0, 1), (1, 1, 1), (1, 2, 1, 0)):
            for forest in all_forests(rooms):
                around = [tuple(holder for holder, _ in climb(forest, x)) for x in range(len(rooms))]
                for x in range(len(rooms)):
                    self.assertEqual(around_of(rooms, forest, x), around[x])
                    self.assertEqual(beneath(rooms, forest, x),
                                     tuple(y for y in range(len(rooms)) if x in around[y]))

    def test_wrong_things(self):
        for function in (around_of, beneath):
            for x in (-1, 4, 10 ** 900, None, "0", (0,), ()):
                self.refused(BadThing, x, function, ROOMS, FOREST, x)
            self.refused(BadThing, 0, function, (), (), 0)

    def test_order_of_errors(self):
        for function in (around_of, beneath):
            self.asks_rooms(function, None, None)
            self.asks_forest(function, None)
            self.asks_forest(function, 7)


class Hung(Case):

    def test_example(self):
        self.assertEqual(hung(ROOMS, FOREST, 1, (3, 0)), (None, (3, 0), (1, 0), (0, 0)))
        self.assertEqual(hung(place=None, x=1, forest=FOREST, rooms=ROOMS), (None, None, (1, 0), (0, 0)))
        self.refused(Within, 3, hung, ROOMS, FOREST, 0, (3, 0))
        self.refused(BadPlace, (0, 0), hung, ROOMS, FOREST, 0, (0, 0))

    def test_the_place_that_it_has(self):
        for x in range(4):
            self.assertEqual(hung(ROOMS, FOREST, x, FOREST[x]), FOREST)

    def test_to_the_floor(self):
        for x in range(4):
            self.assertEqual(hung(ROOMS, FOREST, x, None), FOREST[:x] + (None,) + FOREST[x + 1:])

    def test_what_it_is_handed_stays(self):
        forest = (None, (0, 1), (1, 0), (0, 0))
        hung(ROOMS, forest, 1, (3, 0))
        self.assertEqual(forest, FOREST)

    def test_wrong_places(self):
        wrong = (0, -1, "", "floor", (), (0,), (0, 0, 0), (0, 2), (0, -1), (1, 0), (2, 0), (4, 0), (-1, 0),
                 (None, 0), (0, None), ("0", 0), (0, "0"), (0, 10 ** 900), (10 ** 900, 0), ((0, 0),))
        for place in wrong:
            self.refused(BadPlace, place, hung, ROOMS, (None,) * 4, 1, place)

    def test_into_what_lies_in_it(self):
        self.refused(Within, 1, hung, ROOMS, FOREST, 0, (1, 0))
        self.refused(Within, 23, hung, (1,) * 24, CHAIN, 0, (23, 0))
        self.refused(Within, 23, hung, (1,) * 24, CHAIN, 22, (23, 0))
        self.refused(BadPlace, (3, 1), hung, ROOMS, FOREST, 0, (3, 1))

    def test_all_small_forests(self):
        for rooms in ((1,), (1, 1), (2, 0, 1), (1, 1, 1)):
            places = [None] + [(y, r) for y in range(-1, len(rooms) + 1) for r in range(-1, 3)]
            for forest, x, place in itertools.product(all_forests(rooms), range(len(rooms)), places):
                if not is_place(rooms, x, place):
                    self.refused(BadPlace, place, hung, rooms, forest, x, place)
                    continue
                aim = forest[:x] + (place,) + forest[x + 1:]
                if climb(aim, x) is None:
                    self.refused(Within, place[0], hung, rooms, forest, x, place)
                else:
                    self.assertEqual(hung(rooms, forest, x, place), aim)

    def test_order_of_errors(self):
        self.asks_rooms(hung, None, None, 3)
        self.asks_forest(hung, None, 3)
        self.asks_forest(hung, 9, (0, 0))
        for x in (-1, 4, None, "1", (1,)):
            self.refused(BadThing, x, hung, ROOMS, FOREST, x, (9, 9))
        for place in ODD:
            try:
                self.assertEqual(hung(ROOMS, FOREST, 2, place), FOREST[:2] + (place,) + FOREST[3:])
            except Refused as why:
                self.assertIs(type(why), BadPlace)
                self.assertEqual(why.what, place)
