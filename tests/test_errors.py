import unittest

from nestsay import errors
from nestsay.errors import Refused

NAMES = """
    BadRooms BadThing BadForest Ring BadPlace Within BadBook BadSaying BadLot BadClause TooMany
    BadNumber Unlike Barred NotLeast BadDeed OnFloor NotFree BadRoom NothingToUndo NothingToRedo
    BadText NoThing SameThing OtherPair NoRoom Twice Missing BadRow NoSaying BadJournal Pending
    Torn BadYard BadCode Hooked NoHook BadCut BadWalk Touched Elsewhere BadWorld BadQuestion
    BadPaper BadAnswer BadName BadDoors BadOrder
""".split()


class Errors(unittest.TestCase):

    def test_each_stands_under_refused(self):
        self.assertEqual(len(NAMES), 48)
        self.assertTrue(issubclass(Refused, ValueError))
        for name in NAMES:
            error = getattr(errors, name)
            self.assertEqual(error.__name__, name)
            self.assertTrue(issubclass(error, Refused), name)
            self.assertIsNot(error, Refused)

    def test_none_stands_under_another_one(self):
        for one in NAMES:
            for other in NAMES:
                if one != other:
                    self.assertFalse(issubclass(getattr(errors, one), getattr(errors, other)), (one, other))

    def test_what_is_what_it_was_made_from(self):
        for name in ["Refused"] + NAMES:
            error = getattr(errors, name)
            for what in (0, -1, None, "", "text", (), (1, None), ("in", 0), 10 ** 900):
                self.assertIs(error(what).what, what)
                self.assertIs(error(what=what).what, what)

    def test_each_can_be_caught_as_refused_and_as_value_error(self):
        for name in ["Refused"] + NAMES:
            for above in (Refused, ValueError):
                with self.assertRaises(above) as caught:
                    raise getattr(errors, name)((name, 3))
                self.assertEqual(caught.exception.what, (name, 3))
