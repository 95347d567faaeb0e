"""The errors: their names, their places, how they are made."""

import unittest

from nightsheld import errors
from nightsheld.errors import InnError, NoText

PLAIN = (
    "NoHouse NoStay NoStays NoNight NoKind NoNights NoRooms NoPlan NoChances NoChance NoNumber NoCoins NoGuests "
    "NoKeys NoUses NoGone NoPrices NoRule NoParts NoBook NoDay NoTold NoGroups NoRequests NotNow NoDeed NoLine"
).split()


class TestErrors(unittest.TestCase):
    def test_inn_error_is_straight_under_value_error(self):
        self.assertEqual(InnError.__bases__, (ValueError,))

    def test_each_is_a_class_of_its_own_name(self):
        for name in [*PLAIN, "NoText"]:
            with self.subTest(name=name):
                self.assertEqual(getattr(errors, name).__name__, name)

    def test_each_is_straight_under_inn_error(self):
        for name in [*PLAIN, "NoText"]:
            with self.subTest(name=name):
                self.assertEqual(getattr(errors, name).__bases__, (InnError,))

    def test_no_other_classes_are_there(self):
        found = {name for name, thing in vars(errors).items() if isinstance(thing, type)}
        self.assertEqual(found, {*PLAIN, "NoText", "InnError"})

    def test_each_is_made_without_anything_and_raised(self):
        for name in PLAIN:
            with self.subTest(name=name):
                kind = getattr(errors, name)
                with self.assertRaises(InnError) as caught:
                    raise kind()
                self.assertIs(type(caught.exception), kind)

    def test_no_text_by_place(self):
        for line in (0, 1, 2, 9, 10**11):
            with self.subTest(line=line):
                self.assertEqual(NoText(line).line, line)

    def test_no_text_by_name(self):
        for line in (0, 1, 2, 9, 10**11):
            with self.subTest(line=line):
                self.assertEqual(NoText(line=line).line, line)

    def test_no_text_keeps_its_line_for_who_catches_it(self):
        with self.assertRaises(ValueError) as caught:
            raise NoText(7)
        self.assertIs(type(caught.exception), NoText)
        self.assertEqual(caught.exception.line, 7)

    def test_each_no_text_has_its_own_line(self):
        first = NoText(1)
        second = NoText(2)
        self.assertEqual((first.line, second.line), (1, 2))

    def test_no_text_needs_its_line(self):
        with self.assertRaises(TypeError):
            NoText()


if __name__ == "__main__":
    unittest.main()
