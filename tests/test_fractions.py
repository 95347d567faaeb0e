"""Point 2: what a fraction is, and what later points need of fractions."""

import fractions
import itertools
import math
import unittest

from nightsheld.fractions import (
    brought_down, brought_up, is_fraction, is_less, is_up_to_one, lowest, minus, plus, times,
)
from tests.things import FAR_NUMBERS, Kept, NO_TUPLES, NO_WHOLES, nest, put

SOME = [lowest(top, bottom) for top in range(-7, 8) for bottom in range(1, 7)]


def exact(pair):
    """Python's own fraction, which the tests compare with."""
    return fractions.Fraction(*pair)


def plain(exactly):
    return exactly.numerator, exactly.denominator


class TestIsFraction(unittest.TestCase):
    def tell(self, asked, thing, due):
        kept = Kept(thing)
        with self.subTest(asked=asked.__name__, thing=repr(thing)[:200]):
            self.assertIs(asked(thing), due)
            self.assertTrue(kept.holds())

    def test_lowest_terms_alone(self):
        for top in range(-13, 14):
            for bottom in range(-4, 14):
                due = bottom > 0 and math.gcd(top, bottom) == 1
                self.tell(is_fraction, (top, bottom), due)

    def test_nought_has_one_form(self):
        self.tell(is_fraction, (0, 1), True)
        for bottom in (0, 2, -1, 10**11):
            self.tell(is_fraction, (0, bottom), False)

    def test_numbers_of_many_figures(self):
        self.tell(is_fraction, (10**11, 10**11 + 1), True)
        self.tell(is_fraction, (-(10**11), 10**11 + 1), True)
        self.tell(is_fraction, (10**11, 10**11 + 2), False)
        self.tell(is_fraction, (2**400, 3**300), True)
        self.tell(is_fraction, (2**400 * 5, 3**300 * 5), False)

    def test_what_is_no_number(self):
        for at in range(2):
            for thing in NO_WHOLES:
                for asked in (is_fraction, is_up_to_one):
                    self.tell(asked, put((1, 1), at, thing), False)
                    self.tell(asked, put((0, 1), at, thing), False)

    def test_too_short_too_long_and_no_tuple(self):
        for thing in ((), (1,), (1, 2, 3), (0, 1, 1), ((1, 2),), nest(8), *NO_TUPLES):
            self.tell(is_fraction, thing, False)
            self.tell(is_up_to_one, thing, False)

    def test_from_nought_to_one(self):
        for pair in ((0, 1), (1, 1), (1, 2), (10**11, 10**11 + 1), (1, 10**11)):
            self.tell(is_up_to_one, pair, True)
        for pair in ((-1, 2), (-1, 1), (3, 2), (2, 1), (10**11 + 1, 10**11), (1, -10**11)):
            self.tell(is_up_to_one, pair, False)
        for pair in ((2, 4), (0, 2), (2, 2), (0, 0), (1, 0), (-1, -2)):
            self.tell(is_up_to_one, pair, False)


class TestMaking(unittest.TestCase):
    def test_lowest_terms(self):
        self.assertEqual(lowest(6, 4), (3, 2))
        self.assertEqual(lowest(-6, 4), (-3, 2))
        self.assertEqual(lowest(7, 7), (1, 1))
        self.assertEqual(lowest(-7, 7), (-1, 1))
        self.assertEqual(lowest(12, 1), (12, 1))

    def test_nought(self):
        for bottom in (1, 2, 7, 10**11):
            self.assertEqual(lowest(0, bottom), (0, 1))

    def test_each_small_one(self):
        for top in range(-30, 31):
            for bottom in range(1, 31):
                made = lowest(top, bottom)
                self.assertEqual(made, plain(fractions.Fraction(top, bottom)))
                self.assertIs(is_fraction(made), True)

    def test_many_figures(self):
        for top in FAR_NUMBERS:
            for bottom in (7, 10**6, 10**12 - 1):
                self.assertEqual(lowest(top, bottom), plain(fractions.Fraction(top, bottom)))

    def test_a_bottom_of_nought_or_below_makes_none(self):
        for bottom in (0, -1, -6):
            with self.assertRaises(AssertionError):
                lowest(1, bottom)


class TestReckoning(unittest.TestCase):
    def test_together_less_and_times(self):
        for one, other in itertools.product(SOME, SOME):
            self.assertEqual(plus(one, other), plain(exact(one) + exact(other)))
            self.assertEqual(minus(one, other), plain(exact(one) - exact(other)))
            self.assertEqual(times(one, other), plain(exact(one) * exact(other)))

    def test_nought_comes_out_in_its_form(self):
        self.assertEqual(plus((-1, 3), (1, 3)), (0, 1))
        self.assertEqual(minus((5, 7), (5, 7)), (0, 1))
        self.assertEqual(times((0, 1), (5, 7)), (0, 1))

    def test_less_is_by_amount(self):
        for one, other in itertools.product(SOME, SOME):
            self.assertIs(is_less(one, other), exact(one) < exact(other))

    def test_what_is_handed_in_stays(self):
        one, other = Kept((1, 6)), Kept((-5, 4))
        for reckon in (plus, minus, times, is_less):
            reckon(one.thing, other.thing)
        self.assertTrue(one.holds() and other.holds())


class TestBrought(unittest.TestCase):
    def test_whole_amounts_stay(self):
        for number in (-3, -1, 0, 1, 3, *FAR_NUMBERS):
            self.assertEqual(brought_down((number, 1)), number)
            self.assertEqual(brought_up((number, 1)), number)

    def test_between_whole_numbers(self):
        self.assertEqual((brought_down((7, 2)), brought_up((7, 2))), (3, 4))
        self.assertEqual((brought_down((1, 100)), brought_up((1, 100))), (0, 1))
        self.assertEqual((brought_down((99, 100)), brought_up((99, 100))), (0, 1))

    def test_below_nought(self):
        self.assertEqual((brought_down((-7, 2)), brought_up((-7, 2))), (-4, -3))
        self.assertEqual((brought_down((-1, 100)), brought_up((-1, 100))), (-1, 0))

    def test_each_small_one(self):
        for pair in SOME:
            self.assertEqual(brought_down(pair), math.floor(exact(pair)))
            self.assertEqual(brought_up(pair), math.ceil(exact(pair)))

    def test_many_figures_are_exact(self):
        self.assertEqual(brought_down((10**40 + 1, 10)), 10**39)
        self.assertEqual(brought_up((10**40 + 1, 10)), 10**39 + 1)


if __name__ == "__main__":
    unittest.main()
