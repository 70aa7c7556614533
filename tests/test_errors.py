import unittest

from stilltold import errors
from stilltold.errors import (NoDeed, NoFit, NoLine, NoPair, NoPlace, NotCame, NotHeld, NothingDone, NotLet, NoText,
                              ToldError, TooMany)
from tests.helper import ANYTHING

VALUES = ((NoDeed, "deed"), (NotLet, "deed"), (NotHeld, "note"), (NotCame, "note"), (TooMany, "most"),
          (NoText, "row"), (NoLine, "line"))
BARE = (NoPair, NoPlace, NothingDone, NoFit)
ALL = tuple(kind for kind, value in VALUES) + BARE


class Refusals(unittest.TestCase):
    def test_there_are_eleven_and_their_family(self):
        self.assertEqual(len(set(ALL)), 11)
        self.assertEqual(ToldError.__bases__, (ValueError,))
        for kind in ALL:
            self.assertEqual(kind.__bases__, (ToldError,))
            self.assertEqual(getattr(errors, kind.__name__), kind)

    def test_none_is_another(self):
        for kind in ALL:
            for other in ALL:
                self.assertEqual(issubclass(kind, other), kind is other)

    def test_value_is_the_very_thing(self):
        for kind, value in VALUES:
            for thing in ANYTHING:
                self.assertIs(getattr(kind(thing), value), thing)
                self.assertIs(getattr(kind(**{value: thing}), value), thing)

    def test_each_has_its_own_value_alone(self):
        names = sorted({value for kind, value in VALUES})
        for kind, value in VALUES:
            self.assertEqual([name for name in names if hasattr(kind("x"), name)], [value])
        for kind in BARE:
            self.assertEqual([name for name in names if hasattr(kind(), name)], [])

    def test_values_as_many_as_told(self):
        for kind, value in VALUES:
            self.assertRaises(TypeError, kind)
            self.assertRaises(TypeError, kind, 1, 2)
            self.assertRaises(TypeError, kind, other=1)
        for kind in BARE:
            self.assertRaises(TypeError, kind, 1)

    def test_raised_and_caught_by_the_family(self):
        for kind, value in VALUES:
            thing = ["x"]
            for family in (kind, ToldError, ValueError):
                with self.assertRaises(family) as caught:
                    raise kind(thing)
                self.assertIs(getattr(caught.exception, value), thing)
        for kind in BARE:
            with self.assertRaises(ToldError):
                raise kind()
        with self.assertRaises(ValueError):
            raise ToldError()


if __name__ == "__main__":
    unittest.main()
