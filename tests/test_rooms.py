from helper import Case, ODD, changed, nested, of_parts, rooms_fault
from nestsay.errors import BadRooms, TooMany
from nestsay.rooms import is_rooms, made_rooms


class Rooms(Case):

    def test_rooms_are_returned(self):
        for rooms in ((), (0,), (4,), (0, 1, 2, 3, 4), (4,) * 24, (0,) * 24):
            self.assertEqual(made_rooms(rooms), rooms)
            self.assertIs(is_rooms(rooms), True)
        self.assertEqual(made_rooms(thing=(1, 2)), (1, 2))
        self.assertIs(is_rooms(thing=(1, 2)), True)

    def test_what_is_no_tuple(self):
        for thing in (None, True, False, 0, 3, -1, "", "111"):
            self.refused(BadRooms, -1, made_rooms, thing)
            self.assertIs(is_rooms(thing), False)

    def test_too_many_things(self):
        self.refused(TooMany, 25, made_rooms, (0,) * 25)
        self.refused(TooMany, 30, made_rooms, (1,) * 30)
        self.assertIs(is_rooms((0,) * 25), False)

    def test_too_many_come_ahead_of_wrong_entries(self):
        self.refused(TooMany, 25, made_rooms, (9,) + (0,) * 24)
        self.refused(TooMany, 25, made_rooms, (None,) * 25)
        self.refused(TooMany, 9999, made_rooms, of_parts(9999))

    def test_the_first_wrong_entry(self):
        self.refused(BadRooms, 0, made_rooms, (5,))
        self.refused(BadRooms, 1, made_rooms, (4, -1, 5))
        self.refused(BadRooms, 2, made_rooms, (0, 1, 10 ** 900, None))
        self.refused(BadRooms, 23, made_rooms, (4,) * 23 + (5,))
        self.refused(BadRooms, 1, made_rooms, (1, None))
        self.refused(BadRooms, 1, made_rooms, (1, "1"))
        self.refused(BadRooms, 1, made_rooms, (1, (1,)))
        self.refused(BadRooms, 0, made_rooms, (nested(48), 1))

    def test_true_and_false_are_no_numbers(self):
        self.refused(BadRooms, 1, made_rooms, (1, True))
        self.refused(BadRooms, 0, made_rooms, (False, 1))
        self.assertIs(is_rooms((True,)), False)
        self.assertIs(is_rooms((0, False)), False)

    def test_any_value_is_judged(self):
        for thing in list(ODD) + list(changed((0, 4, 2))):
            fault = rooms_fault(thing)
            self.assertIs(is_rooms(thing), fault is None, thing)
            self.as_told(fault, made_rooms, thing)
