"""Point 70: what each night of a stay costs, and the bill with its tax."""

import fractions
import itertools
import math
import random
import unittest

from nightsheld.bills import bill, nightly
from nightsheld.errors import NoPrices, NoRule, NoStay
from tests.asking import Asking
from tests.things import NO_STAY, NO_TUPLES, NO_WHOLES, nest, no_numbers, put

PRICES = ((10, 11, 12, 13, 14, 15, 16), (20, 21, 22, 23, 24, 25, 26), (30, 31, 32, 33, 34, 35, 36))
ENDS = ((0,) * 7, (1000,) * 7, (0, 1000, 0, 1000, 0, 1000, 1))
PLAIN = (0, (0, 1))

NO_PRICES = (
    (), (PRICES[0],), PRICES[:2], (*PRICES, PRICES[0]), list(PRICES), PRICES[0], (list(PRICES[0]), *PRICES[1:]),
    (*PRICES[:2], None), (*PRICES[:2], PRICES[2][:6]), (*PRICES[:2], (*PRICES[2], 0)), (PRICES,), ((), (), ()), nest(8),
    *[put(PRICES, at, put(PRICES[at], 6 - 3 * at, thing)) for at in range(3) for thing in no_numbers(0, 1000)],
    *NO_TUPLES,
)

NO_TAX = (
    (2, 4), (0, 2), (2, 2), (0, 0), (1, 0), (0, -1), (-1, -2), (1, -2), (-1, 2), (3, 2), (2, 1), (1,), (1, 2, 3),
    ((1, 2),), (10**11 + 1, 10**11), *[(thing, 1) for thing in NO_WHOLES], *[(0, thing) for thing in NO_WHOLES],
    *NO_TUPLES,
)

NO_RULES = (
    (), (0,), (0, (0, 1), 0), [0, (0, 1)], (0, [0, 1]), (0, 0, 1), ((0, (0, 1)),), (1, (0, 1)), (-2, (0, 1)), nest(8),
    *[(thing, (0, 1)) for thing in no_numbers(0, 8)], *[(0, thing) for thing in NO_TAX],
    *[(8, thing) for thing in NO_TAX], *NO_TUPLES,
)


def nightly_due(prices, rule, stay):
    due = []
    for night in range(stay[1], stay[1] + stay[2]):
        due.append(prices[stay[0] - 1][night % 7])
        if rule[0] and len(due) % rule[0] == 0:
            due[-1] = 0
    return tuple(due)


def bill_due(prices, rule, stay):
    coins = sum(nightly_due(prices, rule, stay))
    tax = math.ceil(coins * fractions.Fraction(*rule[1]))
    return coins, tax, coins + tax


class TestNightly(Asking):
    def due(self, prices, rule, stay, told):
        with self.subTest(prices=prices, rule=rule, stay=stay):
            self.assertEqual(self.answer(nightly, prices=prices, rule=rule, stay=stay), told)

    def test_each_kind_has_its_own_prices(self):
        self.due(PRICES, PLAIN, (1, 0, 2), (10, 11))
        self.due(PRICES, PLAIN, (2, 0, 2), (20, 21))
        self.due(PRICES, PLAIN, (3, 0, 2), (30, 31))

    def test_by_the_rest_of_the_night_divided_by_seven(self):
        for first in range(21):
            self.due(PRICES, PLAIN, (1, first, 1), (10 + first % 7,))
        self.due(PRICES, PLAIN, (1, 20, 8), (16, 10, 11, 12, 13, 14, 15, 16))
        self.due(PRICES, PLAIN, (2, 5, 4), (25, 26, 20, 21))

    def test_each_every_th_night_costs_nothing(self):
        self.due(PRICES, (2, (0, 1)), (1, 0, 8), (10, 0, 12, 0, 14, 0, 16, 0))
        self.due(PRICES, (3, (0, 1)), (1, 0, 8), (10, 11, 0, 13, 14, 0, 16, 10))
        self.due(PRICES, (8, (0, 1)), (1, 0, 8), (10, 11, 12, 13, 14, 15, 16, 0))
        self.due(PRICES, (8, (0, 1)), (1, 0, 7), (10, 11, 12, 13, 14, 15, 16))

    def test_it_is_the_stays_own_night_that_counts(self):
        self.due(PRICES, (2, (0, 1)), (1, 1, 3), (11, 0, 13))
        self.due(PRICES, (2, (0, 1)), (1, 20, 1), (16,))

    def test_one_night_is_never_free(self):
        for every in (0, 2, 3, 8):
            self.due(PRICES, (every, (1, 1)), (3, 4, 1), (34,))

    def test_the_ends_of_prices(self):
        self.due(ENDS, PLAIN, (1, 0, 8), (0,) * 8)
        self.due(ENDS, PLAIN, (2, 20, 8), (1000,) * 8)
        self.due(ENDS, PLAIN, (3, 5, 3), (1000, 1, 0))

    def test_the_tax_does_not_count(self):
        for tax in ((0, 1), (1, 2), (1, 1)):
            self.due(PRICES, (0, tax), (1, 0, 1), (10,))

    def test_each_rule_of_each_stay(self):
        for every in (0, 2, 3, 4, 5, 6, 7, 8):
            for kind, first, nights in itertools.product((1, 2, 3), (0, 3, 20), range(1, 9)):
                stay = (kind, first, nights)
                self.due(PRICES, (every, (1, 3)), stay, nightly_due(PRICES, (every, (1, 3)), stay))

    def test_refusals(self):
        wrongs = {"prices": (NoPrices, NO_PRICES), "rule": (NoRule, NO_RULES), "stay": (NoStay, NO_STAY)}
        self.check_refused(nightly, ((PRICES, PLAIN, (1, 0, 1)), (ENDS, (8, (1, 1)), (3, 20, 8))), wrongs)


class TestBill(Asking):
    def due(self, prices, rule, stay, told):
        with self.subTest(prices=prices, rule=rule, stay=stay):
            self.assertEqual(self.answer(bill, prices=prices, rule=rule, stay=stay), told)

    def test_without_tax(self):
        self.due(PRICES, PLAIN, (1, 0, 1), (10, 0, 10))
        self.due(PRICES, PLAIN, (1, 0, 8), (101, 0, 101))

    def test_all_of_it_as_tax(self):
        self.due(PRICES, (0, (1, 1)), (1, 0, 1), (10, 10, 20))
        self.due(ENDS, (0, (1, 1)), (2, 20, 8), (8000, 8000, 16000))

    def test_a_whole_tax_is_itself(self):
        self.due(PRICES, (0, (1, 10)), (1, 0, 1), (10, 1, 11))
        self.due(PRICES, (0, (1, 2)), (3, 2, 1), (32, 16, 48))

    def test_the_tax_is_brought_up(self):
        self.due(PRICES, (0, (1, 10)), (1, 1, 1), (11, 2, 13))
        self.due(PRICES, (0, (1, 100)), (1, 1, 1), (11, 1, 12))
        self.due(PRICES, (0, (99, 100)), (1, 1, 1), (11, 11, 22))
        self.due(PRICES, (0, (1, 10**11)), (1, 1, 1), (11, 1, 12))
        self.due(PRICES, (0, (10**11 - 1, 10**11)), (1, 1, 1), (11, 11, 22))

    def test_the_tax_is_of_all_nights_together(self):
        # Each night's tax alone would be brought up to 1.
        self.due(PRICES, (0, (1, 100)), (1, 0, 8), (101, 2, 103))

    def test_free_nights_bear_no_tax(self):
        self.due(PRICES, (2, (1, 2)), (1, 0, 2), (10, 5, 15))

    def test_nothing_costs_nothing(self):
        self.due(ENDS, (0, (1, 1)), (1, 0, 8), (0, 0, 0))
        self.due(ENDS, (2, (1, 3)), (3, 0, 2), (0, 0, 0))

    def test_others(self):
        chance = random.Random(70)
        for step in range(200):
            prices = tuple(tuple(chance.randint(0, 1000) for night in range(7)) for kind in range(3))
            tax = fractions.Fraction(chance.randint(0, 97), 97)
            rule = (chance.choice((0, 2, 3, 4, 5, 6, 7, 8)), (tax.numerator, tax.denominator))
            stay = (chance.randint(1, 3), chance.randint(0, 20), chance.randint(1, 8))
            self.due(prices, rule, stay, bill_due(prices, rule, stay))
            self.assertEqual(bill(prices, rule, stay)[0], sum(nightly(prices, rule, stay)))

    def test_refusals(self):
        wrongs = {"prices": (NoPrices, NO_PRICES), "rule": (NoRule, NO_RULES), "stay": (NoStay, NO_STAY)}
        self.check_refused(bill, ((PRICES, PLAIN, (1, 0, 1)), (ENDS, (8, (1, 1)), (3, 20, 8))), wrongs)


if __name__ == "__main__":
    unittest.main()
