from helper import Case, all_forests, all_standings, changed, saying_fault, subsets, swapped
from nestsay.errors import BadRooms, BadSaying
from nestsay.sayings import about, contrary, is_saying
from nestsay.standings import standing

ROOMS = (2, 1, 0)
SAYING = (0, 1, (("in", 0), ("around", 1)))
OTHERS = (("apart", 0), ("around", 0))


def every_saying(rooms):
    return [(x, y, lets) for x in range(len(rooms)) for y in range(len(rooms)) if x != y
            for lets in subsets(all_standings(rooms, x, y))]


class IsSaying(Case):

    def test_sayings(self):
        for saying in every_saying(ROOMS):
            self.assertIs(is_saying(ROOMS, saying), True)
        self.assertIs(is_saying(saying=SAYING, rooms=ROOMS), True)
        self.assertIs(is_saying((4,) * 24, (23, 0, tuple(all_standings((4,) * 24, 23, 0)))), True)

    def test_no_sayings(self):
        for saying in (None, "", 0, (), (0, 1), (0, 1, (), ()), (0, 0, ()), (0, 3, ()), (3, 0, ()), (-1, 0, ()),
                       (0, -1, ()), (0, None, ()), ("0", 1, ()), (0, 1, None), (0, 1, "in"), (0, 1, ("in", 0)),
                       (0, 1, (("in", 0, 0),)), (0, 1, (("in",),)), (0, 1, (("in", -1),)), (0, 1, (("in", 1),)),
                       (0, 1, (("around", 2),)), (0, 1, (("apart", 1),)), (0, 1, (("apart", -1),)),
                       (1, 2, (("in", 0),)), (0, 1, (("on", 0),)), (0, 1, ((None, 0),)), (0, 1, (("in", "0"),))):
            self.assertIs(is_saying(ROOMS, saying), False, saying)

    def test_each_at_most_once_and_in_order(self):
        self.assertIs(is_saying(ROOMS, (0, 1, (("in", 0), ("in", 0)))), False)
        self.assertIs(is_saying(ROOMS, (0, 1, (("in", 0), ("apart", 0)))), False)
        self.assertIs(is_saying(ROOMS, (0, 1, (("around", 1), ("around", 0)))), False)
        self.assertIs(is_saying(ROOMS, (0, 1, (("around", 0), ("in", 0)))), False)

    def test_true_and_false_are_no_numbers(self):
        for saying in ((True, 0, ()), (0, True, ()), (False, 1, ()), (1, False, ()), (0, 1, (("around", True),)),
                       (0, 1, (("in", False),)), (0, 1, (("apart", False),))):
            self.assertIs(is_saying(ROOMS, saying), False, saying)

    def test_rooms_are_judged(self):
        for rooms in (None, 3, "", (5, 1), (True, 1), (1,) * 25, (1, None), (1, -1)):
            self.assertIs(is_saying(rooms, (0, 1, ())), False, rooms)
        self.assertIs(is_saying((), (0, 1, ())), False)
        self.assertIs(is_saying((1,), (0, 1, ())), False)

    def test_any_value_is_judged(self):
        for saying in changed(SAYING):
            fault = saying_fault(ROOMS, saying)
            self.assertIs(is_saying(ROOMS, saying), fault is None, saying)
            self.as_told(fault, contrary, ROOMS, saying)
        for rooms in changed(ROOMS):
            fault = saying_fault(rooms, SAYING)
            self.assertIs(is_saying(rooms, SAYING), fault is None, rooms)
            self.as_told(fault, contrary, rooms, SAYING)


class Contrary(Case):

    def test_example(self):
        self.assertEqual(contrary(ROOMS, SAYING), (0, 1, OTHERS))
        self.assertEqual(contrary(saying=(0, 1, OTHERS), rooms=ROOMS), SAYING)
        self.assertEqual(contrary(ROOMS, (1, 2, ())), (1, 2, (("apart", 0), ("around", 0))))

    def test_all_and_none(self):
        for x in range(3):
            for y in range(3):
                if x != y:
                    everything = tuple(all_standings(ROOMS, x, y))
                    self.assertEqual(contrary(ROOMS, (x, y, ())), (x, y, everything))
                    self.assertEqual(contrary(ROOMS, (x, y, everything)), (x, y, ()))

    def test_a_forest_keeps_just_one_of_the_two(self):
        for saying in every_saying(ROOMS):
            other = contrary(ROOMS, saying)
            self.assertEqual(other[:2], saying[:2])
            self.assertIs(is_saying(ROOMS, other), True)
            self.assertEqual(contrary(ROOMS, other), saying)
            for forest in all_forests(ROOMS):
                told = standing(ROOMS, forest, saying[0], saying[1])
                self.assertNotEqual(told in saying[2], told in other[2])

    def test_errors(self):
        self.refused(BadSaying, 0, contrary, ROOMS, None)
        self.refused(BadSaying, 0, contrary, ROOMS, (0, 3, ()))
        self.refused(BadSaying, 0, contrary, ROOMS, (0, 1, (("around", True),)))
        self.refused(BadSaying, 0, contrary, (), (0, 1, ()))
        self.asks_rooms(contrary, None)
        self.asks_rooms(contrary, SAYING)
        self.refused(BadRooms, 0, contrary, (7, 1), (0, 1, ()))


class About(Case):

    def test_example(self):
        self.assertEqual(about(SAYING), (1, 0, (("in", 1), ("around", 0))))
        self.assertEqual(about(saying=(2, 1, ())), (1, 2, ()))

    def test_every_saying(self):
        for rooms in (ROOMS, (2, 3), (4, 4), (0, 0)):
            for saying in every_saying(rooms):
                x, y, lets = saying
                told = about(saying)
                self.assertEqual(told[:2], (y, x))
                self.assertEqual(told[2], tuple(each for each in all_standings(rooms, y, x) if swapped(each) in lets))
                self.assertEqual(about(told), saying)
