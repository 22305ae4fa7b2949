"""Promise 3, as far as it tells of the classes of the errors."""

import unittest

from slideback import errors
from slideback.errors import DeckError, NoText

NAMES = [
    "NoDeck", "NoCard", "NoName", "NoDepth", "NoPlace", "Twice", "Full", "Last", "NoNumber", "NoStep", "NoLevel",
    "NotSettled", "NotLasting", "NoOrder", "NoNames", "NoRow", "NoDepths", "TooMany", "NoText", "NoForm", "NoneYet",
]


class Classes(unittest.TestCase):
    def test_the_first_one_is_a_value_error(self):
        self.assertTrue(issubclass(DeckError, ValueError))

    def test_each_one_stands_under_the_first(self):
        for name in NAMES:
            with self.subTest(name):
                self.assertTrue(issubclass(getattr(errors, name), DeckError))
                self.assertIsNot(getattr(errors, name), DeckError)

    def test_none_stands_under_another(self):
        for name in NAMES:
            for other in NAMES:
                if name != other:
                    with self.subTest(name=name, other=other):
                        self.assertFalse(issubclass(getattr(errors, name), getattr(errors, other)))

    def test_they_are_defined_in_their_file(self):
        for name in NAMES + ["DeckError"]:
            with self.subTest(name):
                self.assertEqual(getattr(errors, name).__module__, "slideback.errors")
                self.assertEqual(getattr(errors, name).__name__, name)

    def test_each_one_is_caught_as_the_first_and_as_a_value_error(self):
        for name in NAMES:
            if name == "NoText":
                continue
            for caught in (DeckError, ValueError, getattr(errors, name)):
                with self.subTest(name=name, caught=caught):
                    with self.assertRaises(caught):
                        raise getattr(errors, name)("why")


class Texts(unittest.TestCase):
    def test_no_text_has_its_place(self):
        for place in (0, 1, 7, 10 ** 30, None):
            with self.subTest(place):
                self.assertEqual(NoText(place).place, place)

    def test_no_text_keeps_its_place_when_it_is_raised(self):
        with self.assertRaises(DeckError) as told:
            raise NoText(3)
        self.assertEqual(told.exception.place, 3)
        self.assertIsInstance(told.exception, NoText)


if __name__ == "__main__":
    unittest.main()
