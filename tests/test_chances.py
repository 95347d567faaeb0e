"""Points 50 and 51: how many come, how many beyond the rooms, what is earned, how many are best sold."""

import fractions
import itertools
import math
import random
import unittest

from nightsheld.chances import best_sold, beyond, comers, earning, mean_beyond
from nightsheld.errors import NoChance, NoChances, NoCoins, NoNumber
from nightsheld.fractions import is_fraction
from tests.asking import Asking
from tests.things import NO_TUPLES, NO_WHOLES, nest, no_numbers

Fraction = fractions.Fraction

NEVER, ALWAYS, HALF, THIRD = (0, 1), (1, 1), (1, 2), (1, 3)
LONG = (999999999988, 999999999989)
TEN = (HALF, THIRD, (2, 3), (9, 10), ALWAYS, NEVER, (1, 7), (5, 6), HALF, (3, 4))

NO_FRACTIONS = (
    (2, 4), (0, 2), (2, 2), (0, 0), (1, 0), (0, -1), (-1, -2), (1, -1), (1, -2), (10**11, 10**11), (0, 10**11), (6, 9),
    (), (1,), (1, 2, 3), (0, 1, 1), ((1, 2),), nest(8), *NO_TUPLES, *[(thing, 1) for thing in NO_WHOLES],
    *[(1, thing) for thing in NO_WHOLES], *[(0, thing) for thing in NO_WHOLES],
)

NO_CHANCE = ((-1, 2), (-1, 1), (3, 2), (2, 1), (10**11 + 1, 10**11), (-(10**11), 1), *NO_FRACTIONS)

NO_CHANCES = (
    (HALF,) * 11, (NEVER,) * 100, HALF, ALWAYS, (1,), (HALF, [1, 2]), ([1, 2],), (HALF, None), ((HALF,),),
    *[(thing,) for thing in NO_CHANCE], *[(HALF, thing, HALF) for thing in NO_CHANCE],
    *[TEN[:9] + (thing,) for thing in NO_CHANCE[:12]], *NO_TUPLES,
)

NO_SALE = {
    "chance": (NoChance, NO_CHANCE),
    "rooms": (NoNumber, no_numbers(0, 12)),
    "price": (NoCoins, no_numbers(0, 1000)),
    "paid": (NoCoins, no_numbers(0, 1000)),
}


def plain(exactly):
    return exactly.numerator, exactly.denominator


def comers_due(chances):
    """The chance of each number: by trying for each booking that it comes and that it doesn't."""
    due = [Fraction(0)] * (len(chances) + 1)
    for come in itertools.product((False, True), repeat=len(chances)):
        each = [Fraction(*chance) if comes else 1 - Fraction(*chance) for comes, chance in zip(come, chances)]
        due[sum(come)] += math.prod(each, start=Fraction(1))
    return due


def earning_due(chance, rooms, price, paid, sold):
    comes = Fraction(*chance)
    mean = Fraction(0)
    for many in range(sold + 1):
        likely = math.comb(sold, many) * comes**many * (1 - comes) ** (sold - many)
        housed = min(many, rooms)
        mean += likely * (price * housed - paid * (many - housed))
    return mean


def some_chances(chance, most):
    rows = []
    for step in range(chance.randint(0, most)):
        bottom = chance.choice((1, 2, 3, 10, 100, 12345, 10**11 + 3))
        rows.append(plain(Fraction(chance.randint(0, bottom), bottom)))
    return tuple(rows)


class TestComers(Asking):
    def due(self, chances, told):
        with self.subTest(chances=chances):
            self.assertEqual(self.answer(comers, chances=chances), told)

    def test_no_bookings(self):
        self.due((), ((1, 1),))

    def test_one_booking(self):
        self.due((HALF,), ((1, 2), (1, 2)))
        self.due((THIRD,), ((2, 3), (1, 3)))
        self.due((NEVER,), ((1, 1), (0, 1)))
        self.due((ALWAYS,), ((0, 1), (1, 1)))

    def test_some_bookings(self):
        self.due((HALF, HALF), ((1, 4), (1, 2), (1, 4)))
        self.due((HALF, THIRD), ((1, 3), (1, 2), (1, 6)))
        self.due((ALWAYS, NEVER, HALF), ((0, 1), (1, 2), (1, 2), (0, 1)))

    def test_ten_bookings(self):
        self.due(TEN, tuple(plain(each) for each in comers_due(TEN)))
        self.due((NEVER,) * 10, ((1, 1),) + ((0, 1),) * 10)
        self.due((ALWAYS,) * 10, ((0, 1),) * 10 + ((1, 1),))
        self.due((HALF,) * 10, tuple(plain(Fraction(math.comb(10, many), 1024)) for many in range(11)))

    def test_many_figures(self):
        self.due((LONG,), ((1, LONG[1]), LONG))
        self.due((LONG,) * 10, tuple(plain(each) for each in comers_due((LONG,) * 10)))

    def test_others(self):
        chance = random.Random(50)
        for step in range(60):
            chances = some_chances(chance, 6)
            self.due(chances, tuple(plain(each) for each in comers_due(chances)))

    def test_fractions_that_are_one_together(self):
        for chances in ((), TEN, (LONG,) * 10, (THIRD,) * 7):
            told = comers(chances)
            self.assertIs(type(told), tuple)
            self.assertEqual(len(told), len(chances) + 1)
            self.assertTrue(all(is_fraction(each) for each in told))
            self.assertEqual(sum(Fraction(*each) for each in told), 1)

    def test_refusals(self):
        self.check_refused(comers, [(chances,) for chances in ((), (HALF,), TEN)], {"chances": (NoChances, NO_CHANCES)})


class TestBeyond(Asking):
    def due(self, chances, rooms, told, mean):
        with self.subTest(chances=chances, rooms=rooms):
            self.assertEqual(self.answer(beyond, chances=chances, rooms=rooms), told)
            self.assertEqual(self.answer(mean_beyond, chances=chances, rooms=rooms), mean)

    def test_no_bookings(self):
        for rooms in (0, 1, 12):
            self.due((), rooms, (0, 1), (0, 1))

    def test_no_rooms(self):
        self.due((HALF,), 0, (1, 2), (1, 2))
        self.due((HALF, HALF), 0, (3, 4), (1, 1))
        self.due((ALWAYS,) * 10, 0, (1, 1), (10, 1))
        self.due((NEVER,) * 10, 0, (0, 1), (0, 1))

    def test_as_many_rooms_as_bookings(self):
        self.due((ALWAYS,) * 10, 10, (0, 1), (0, 1))
        self.due((ALWAYS,) * 10, 9, (1, 1), (1, 1))
        self.due((ALWAYS,) * 10, 12, (0, 1), (0, 1))
        self.due(TEN, 10, (0, 1), (0, 1))

    def test_some_bookings(self):
        self.due((HALF, HALF), 1, (1, 4), (1, 4))
        self.due((HALF, HALF, HALF), 1, (1, 2), (5, 8))
        self.due((THIRD, HALF), 1, (1, 6), (1, 6))

    def test_all_rooms_of_others(self):
        chance = random.Random(51)
        for chances in [TEN, (LONG,) * 10, *[some_chances(chance, 5) for step in range(25)]]:
            likely = comers_due(chances)
            for rooms in range(13):
                more = sum((each for many, each in enumerate(likely) if many > rooms), Fraction(0))
                mean = sum(((many - rooms) * each for many, each in enumerate(likely) if many > rooms), Fraction(0))
                self.due(chances, rooms, plain(more), plain(mean))

    def test_refusals(self):
        wrongs = {"chances": (NoChances, NO_CHANCES), "rooms": (NoNumber, no_numbers(0, 12))}
        for asked in (beyond, mean_beyond):
            self.check_refused(asked, (((), 0), (TEN, 12)), wrongs)


class TestEarning(Asking):
    def due(self, chance, rooms, price, paid, sold, told):
        given = {"chance": chance, "rooms": rooms, "price": price, "paid": paid, "sold": sold}
        with self.subTest(**given):
            self.assertEqual(self.answer(earning, **given), told)

    def test_nothing_sold(self):
        for chance in (NEVER, HALF, ALWAYS, LONG):
            self.due(chance, 0, 1000, 1000, 0, (0, 1))
            self.due(chance, 12, 1000, 0, 0, (0, 1))

    def test_all_come(self):
        self.due(ALWAYS, 12, 1000, 1000, 12, (12000, 1))
        self.due(ALWAYS, 2, 10, 7, 5, (-1, 1))
        self.due(ALWAYS, 2, 10, 7, 4, (6, 1))
        self.due(ALWAYS, 0, 1000, 1000, 12, (-12000, 1))

    def test_none_comes(self):
        self.due(NEVER, 3, 1000, 1000, 12, (0, 1))

    def test_some_come(self):
        self.due(HALF, 1, 10, 0, 1, (5, 1))
        self.due(HALF, 1, 10, 0, 2, (15, 2))
        self.due(HALF, 1, 10, 10, 2, (5, 1))
        self.due(THIRD, 1, 1, 0, 1, (1, 3))

    def test_below_nought(self):
        self.due(HALF, 1, 0, 1, 2, (-1, 4))
        self.due(HALF, 0, 5, 1000, 1, (-500, 1))
        self.due(THIRD, 0, 0, 1, 1, (-1, 3))

    def test_the_ends_of_prices(self):
        for price, paid in itertools.product((0, 1, 1000), (0, 1, 1000)):
            for rooms, sold in itertools.product((0, 5, 12), (0, 7, 12)):
                for chance in (HALF, LONG):
                    due = plain(earning_due(chance, rooms, price, paid, sold))
                    self.due(chance, rooms, price, paid, sold, due)

    def test_others(self):
        chance = random.Random(52)
        for step in range(80):
            each = plain(Fraction(chance.randint(0, 20), 20))
            rooms, price, paid = chance.randint(0, 12), chance.randint(0, 1000), chance.randint(0, 1000)
            sold = chance.randint(0, 12)
            self.due(each, rooms, price, paid, sold, plain(earning_due(each, rooms, price, paid, sold)))

    def test_refusals(self):
        wrongs = {**NO_SALE, "sold": (NoNumber, no_numbers(0, 12))}
        self.check_refused(earning, ((HALF, 0, 0, 0, 0), (ALWAYS, 12, 1000, 1000, 12)), wrongs)


class TestBestSold(Asking):
    def due(self, chance, rooms, price, paid, told):
        given = {"chance": chance, "rooms": rooms, "price": price, "paid": paid}
        with self.subTest(**given):
            self.assertEqual(self.answer(best_sold, **given), told)

    def test_the_least_of_several(self):
        self.due(NEVER, 5, 1000, 1000, (0, (0, 1)))
        self.due(HALF, 5, 0, 0, (0, (0, 1)))
        self.due(ALWAYS, 5, 10, 0, (5, (50, 1)))
        self.due(HALF, 0, 10, 0, (0, (0, 1)))
        # The second booking earns just as much as it costs.
        self.due(HALF, 1, 10, 10, (1, (5, 1)))

    def test_no_rooms(self):
        self.due(HALF, 0, 1000, 1, (0, (0, 1)))

    def test_as_many_as_there_are_rooms(self):
        self.due(ALWAYS, 5, 10, 1, (5, (50, 1)))
        self.due(ALWAYS, 12, 1000, 1000, (12, (12000, 1)))

    def test_as_many_as_can_be_sold(self):
        self.due(HALF, 12, 1000, 1000, (12, (6000, 1)))
        self.due((1, 100), 1, 1000, 0, (12, plain(earning_due((1, 100), 1, 1000, 0, 12))))

    def test_more_than_there_are_rooms(self):
        self.due(HALF, 1, 10, 1, (4, (133, 16)))

    def test_others(self):
        chance = random.Random(53)
        for step in range(120):
            each = plain(Fraction(chance.randint(0, 10), 10))
            rooms, price, paid = chance.randint(0, 12), chance.choice((0, 1, 10, 1000)), chance.choice((0, 1, 10, 1000))
            earnings = [earning_due(each, rooms, price, paid, sold) for sold in range(13)]
            self.due(each, rooms, price, paid, (earnings.index(max(earnings)), plain(max(earnings))))

    def test_many_figures(self):
        earnings = [earning_due(LONG, 6, 999, 998, sold) for sold in range(13)]
        self.due(LONG, 6, 999, 998, (earnings.index(max(earnings)), plain(max(earnings))))

    def test_refusals(self):
        self.check_refused(best_sold, ((HALF, 0, 0, 0), (ALWAYS, 12, 1000, 1000)), NO_SALE)


if __name__ == "__main__":
    unittest.main()
