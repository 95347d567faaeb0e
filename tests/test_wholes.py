"""Point 2: what a whole number is."""

import unittest

from nightsheld.wholes import is_whole, is_within
from tests.things import FAR_NUMBERS, NO_WHOLES


class TestWholes(unittest.TestCase):
    def test_numbers_are_whole(self):
        for number in (0, 1, -1, 41, *FAR_NUMBERS, 10**200):
            with self.subTest(number=number):
                self.assertIs(is_whole(number), True)

    def test_truths_and_all_else_are_not(self):
        for thing in NO_WHOLES:
            with self.subTest(thing=thing):
                self.assertIs(is_whole(thing), False)

    def test_within_takes_both_bounds(self):
        told = [number for number in range(-5, 15) if is_within(number, 2, 8)]
        self.assertEqual(told, [2, 3, 4, 5, 6, 7, 8])
        self.assertIs(is_within(2, 2, 8), True)
        self.assertIs(is_within(9, 2, 8), False)

    def test_within_takes_no_truth_and_nothing_else(self):
        for thing in NO_WHOLES:
            with self.subTest(thing=thing):
                self.assertIs(is_within(thing, 0, 1), False)


if __name__ == "__main__":
    unittest.main()
