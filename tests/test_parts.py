"""Points 71 and 72: who pays how much, of one amount and night by night."""

import fractions
import itertools
import math
import random
import unittest

from nightsheld.errors import NoCoins, NoParts
from nightsheld.parts import is_table, shared, table
from tests.asking import AskAnything, Asking
from tests.things import NO_TUPLES, NO_WHOLES, nest, no_numbers, put

MILLION = 1000000

NO_PARTS = (
    (), (0,), (0, 0), (0, 0, 0), (0, 0, 0, 0), (1, 1, 1, 1, 1), (0, 0, 0, 0, 1), (99,) * 100, (1, -1), (-1,), (100,),
    (1, 100), (1, [1]), ((1,),), ((1, 2), 3), [1], [1, 2], {1: 1}, nest(8), (MILLION,),
    *[(1, thing, 2) for thing in no_numbers(0, 99)], *[(thing,) for thing in NO_WHOLES], *NO_TUPLES,
)

NO_AMOUNTS = (
    (), (1,) * 9, (0,) * 100, ((1,),), ((1, 2), 3), [1], [1, 2], (MILLION + 1,), (-1,), (0, -1), nest(8),
    *[(7, thing) for thing in no_numbers(0, MILLION)], *[(thing,) for thing in NO_WHOLES], *NO_TUPLES,
)


def exact_due(parts, coins):
    return [fractions.Fraction(coins * part, sum(parts)) for part in parts]


def shared_due(parts, coins):
    """Coin by coin: each one left to the payer with the greatest rest who has none of them yet."""
    exact = exact_due(parts, coins)
    pays = [math.floor(part) for part in exact]
    rests = [part - paid for part, paid in zip(exact, pays)]
    while sum(pays) < coins:
        first = rests.index(max(rests))
        pays[first] += 1
        rests[first] = -1
    return tuple(pays)


def is_exact(paid, exact):
    return paid in (math.floor(exact), math.ceil(exact))


def table_due(parts, coins, rows):
    """Whether rows of whole numbers are a table."""
    nights = [sum(row) == amount for row, amount in zip(rows, coins)]
    cells = [
        is_exact(paid, exact) for row, amount in zip(rows, coins) for paid, exact in zip(row, exact_due(parts, amount))
    ]
    payers = [
        is_exact(sum(row[payer] for row in rows), exact)
        for payer, exact in enumerate(exact_due(parts, sum(coins)))
    ]
    return all(nights) and all(cells) and all(payers)


def some_parts(chance):
    most = chance.choice((1, 2, 5, 99))
    parts = [chance.randint(0, most) for payer in range(chance.randint(1, 4))]
    return tuple(parts) if any(parts) else (1, *parts[1:])


def some_coins(chance):
    most = chance.choice((1, 3, 10, 1000, MILLION))
    return tuple(chance.randint(0, most) for night in range(chance.randint(1, 8)))


def moved(rows, night, giver, taker, coins=1):
    """The table with coins moved from one payer to another on one night."""
    row = put(rows[night], giver, rows[night][giver] - coins)
    return put(rows, night, put(row, taker, row[taker] + coins))


class TestShared(Asking):
    def due(self, parts, coins, told):
        with self.subTest(parts=parts, coins=coins):
            self.assertEqual(self.answer(shared, parts=parts, coins=coins), told)
            self.assertEqual(told, shared_due(parts, coins))

    def test_one_payer_pays_all(self):
        for part in (1, 2, 99):
            for coins in (0, 1, 2, 999, MILLION):
                self.due((part,), coins, (coins,))

    def test_four_payers(self):
        self.due((1, 1, 1, 1), 100, (25, 25, 25, 25))
        self.due((1, 2, 3, 4), 100, (10, 20, 30, 40))
        self.due((1, 2, 3, 4), 101, (10, 20, 30, 41))
        self.due((99, 99, 99, 98), MILLION, (250633, 250633, 250633, 248101))

    def test_nothing_to_pay(self):
        for parts in ((1,), (0, 1), (99, 0, 1), (1, 2, 3, 4)):
            self.due(parts, 0, (0,) * len(parts))

    def test_parts_of_0_pay_nothing(self):
        self.due((0, 1), 7, (0, 7))
        self.due((1, 0), 7, (7, 0))
        self.due((0, 1, 0, 1), 7, (0, 4, 0, 3))
        self.due((0, 0, 0, 99), MILLION, (0, 0, 0, MILLION))

    def test_parts_of_99(self):
        self.due((99, 1), 1, (1, 0))
        self.due((99, 1), 50, (50, 0))
        self.due((1, 99), 49, (0, 49))
        self.due((99, 99), 3, (2, 1))
        self.due((99, 1), MILLION, (990000, 10000))

    def test_of_like_rests_the_first_ones(self):
        self.due((1, 1), 1, (1, 0))
        self.due((1, 1, 1), 1, (1, 0, 0))
        self.due((1, 1, 1), 2, (1, 1, 0))
        self.due((1, 1, 1, 1), 3, (1, 1, 1, 0))
        self.due((1, 1, 1), MILLION, (333334, 333333, 333333))
        self.due((2, 1, 1), 2, (1, 1, 0))
        self.due((1, 1, 2), 2, (1, 0, 1))

    def test_the_greatest_rests_not_the_greatest_parts(self):
        self.due((5, 1), 5, (4, 1))
        self.due((2, 3), 3, (1, 2))
        self.due((3, 2), 4, (2, 2))
        self.due((1, 2, 4), 3, (0, 1, 2))
        self.due((3, 3, 1), 3, (1, 1, 1))

    def test_all_pay_the_coins_together_and_no_one_more_than_brought_up(self):
        chance = random.Random(71)
        for step in range(500):
            parts = some_parts(chance)
            coins = chance.randint(0, chance.choice((5, 100, MILLION)))
            told = shared(parts, coins)
            self.due(parts, coins, told)
            self.assertEqual(sum(told), coins)
            self.assertTrue(all(is_exact(paid, exact) for paid, exact in zip(told, exact_due(parts, coins))))

    def test_the_least_parts_with_all_small_coins(self):
        for many in (1, 2, 3, 4):
            for parts in itertools.product(range(4), repeat=many):
                if any(parts):
                    for coins in range(8):
                        self.assertEqual(shared(parts, coins), shared_due(parts, coins))

    def test_refusals(self):
        wrongs = {"parts": (NoParts, NO_PARTS), "coins": (NoCoins, (*no_numbers(0, MILLION), (5,), (0, 0)))}
        self.check_refused(shared, (((1,), 0), ((0, 99, 0, 1), MILLION)), wrongs)


class TestTable(Asking):
    def check(self, parts, coins):
        with self.subTest(parts=parts, coins=coins):
            told = self.answer(table, parts=parts, coins=coins)
            self.assertIs(type(told), tuple)
            self.assertEqual([(type(row), len(row)) for row in told], [(tuple, len(parts))] * len(coins))
            self.assertEqual({type(paid) for row in told for paid in row}, {int})
            self.assertTrue(table_due(parts, coins, told))
            return told

    def test_one_payer(self):
        self.assertEqual(self.check((7,), (5, 0, MILLION)), ((5,), (0,), (MILLION,)))

    def test_one_night(self):
        self.assertEqual(self.check((1, 3), (4,)), ((1, 3),))
        self.check((1, 1, 1), (100,))
        self.check((99, 98, 97, 96), (MILLION,))

    def test_whole_parts_have_one_table(self):
        self.assertEqual(self.check((1, 2, 1), (4, 8, 0)), ((1, 2, 1), (2, 4, 2), (0, 0, 0)))

    def test_eight_nights(self):
        self.check((1, 1), (1,) * 8)
        self.check((1, 1, 1), (1,) * 8)
        self.check((1, 2, 3, 4), (1,) * 8)
        self.check((99, 0, 1, 50), (MILLION, 0, 1, 2, 3, 999999, 5, 7))
        self.check((97, 89, 83, 79), (1, 2, 4, 8, 16, 32, 64, 128))

    def test_parts_of_0_pay_nothing(self):
        for row in self.check((0, 1, 0, 2), (1, 2, 3, 4, 5, 6, 7, 8)):
            self.assertEqual((row[0], row[2]), (0, 0))

    def test_nothing_to_pay(self):
        self.assertEqual(self.check((1, 2, 3, 4), (0,) * 8), ((0, 0, 0, 0),) * 8)

    def test_where_each_night_shared_alone_would_be_wrong(self):
        # Of like rests the first payer would pay each night's coin.
        self.check((1, 1), (1, 1))
        self.check((1, 1, 1, 1), (1, 1, 1, 1))
        self.check((1, 1, 1, 1), (3, 3, 3, 3, 3))
        self.check((50, 49), (1,) * 8)

    def test_others(self):
        chance = random.Random(72)
        for step in range(300):
            parts = some_parts(chance)
            coins = some_coins(chance)
            told = self.check(parts, coins)
            self.assertEqual(sum(sum(row) for row in told), sum(coins))

    def test_refusals(self):
        wrongs = {"parts": (NoParts, NO_PARTS), "coins": (NoCoins, NO_AMOUNTS)}
        self.check_refused(table, (((1,), (0,)), ((0, 99, 0, 1), (MILLION,) * 8)), wrongs)


class TestIsTable(AskAnything):
    def shown(self, parts, coins, thing, due):
        self.tell(is_table, thing, due, parts=parts, coins=coins)

    def test_what_is_told(self):
        chance = random.Random(73)
        for step in range(100):
            parts = some_parts(chance)
            coins = some_coins(chance)
            self.shown(parts, coins, table(parts, coins), True)

    def test_each_table_and_no_other(self):
        chance = random.Random(74)
        for step in range(12):
            payers, nights = chance.choice(((1, 3), (2, 2), (2, 3), (3, 2)))
            parts = tuple(chance.randint(1, 5) for payer in range(payers))
            coins = tuple(chance.randint(0, 3) for night in range(nights))
            found = 0
            for flat in itertools.product(range(4), repeat=payers * nights):
                rows = tuple(flat[at:at + payers] for at in range(0, len(flat), payers))
                due = table_due(parts, coins, rows)
                found += due
                self.assertIs(is_table(parts, coins, rows), due, (parts, coins, rows))
            self.assertGreater(found, 0)

    def test_other_tables_of_the_same(self):
        self.shown((1, 1), (1, 1), ((0, 1), (1, 0)), True)
        self.shown((1, 1), (1, 1), ((1, 0), (0, 1)), True)
        self.shown((1, 1), (1,), ((0, 1),), True)
        self.shown((1, 1), (1,), ((1, 0),), True)

    def test_a_coin_moved_in_one_night(self):
        # The nights are still right, the payers are not.
        self.shown((1, 1), (1, 1), ((1, 0), (1, 0)), False)
        self.shown((1, 1), (1, 1), ((0, 1), (0, 1)), False)
        self.shown((1, 1, 1), (1, 1, 1), ((1, 0, 0), (0, 1, 0), (0, 1, 0)), False)
        # One more than brought up, though the payers together are right again.
        self.shown((1, 1), (2, 2), ((1, 1), (1, 1)), True)
        self.shown((1, 1), (2, 2), ((2, 0), (0, 2)), False)

    def test_a_coin_moved_in_two_nights(self):
        rows = ((1, 0), (0, 1), (1, 0), (0, 1))
        self.shown((1, 1), (1, 1, 1, 1), rows, True)
        self.shown((1, 1), (1, 1, 1, 1), moved(moved(rows, 0, 0, 1), 1, 1, 0), True)
        self.shown((1, 1), (1, 1, 1, 1), moved(moved(rows, 0, 0, 1), 2, 0, 1), False)
        self.shown((1, 1), (1, 1, 1, 1), moved(moved(rows, 0, 1, 0), 1, 0, 1), False)

    def test_a_coin_moved_from_one_night_to_another(self):
        # The payers are still right, the nights are not.
        self.shown((1, 1), (1, 1), ((1, 1), (0, 0)), False)
        self.shown((1, 1), (1, 1), ((0, 0), (1, 1)), False)
        self.shown((1, 1), (1, 3), ((1, 1), (1, 1)), False)
        self.shown((1, 2), (2, 2), ((1, 2), (0, 1)), False)

    def test_one_payer_wrong_alone(self):
        # All nights and all cells are right; of exact 2/3, 2/3 and 8/3 the last payer has 2 of 3, or 4.
        self.shown((1, 1, 4), (2, 2), ((0, 1, 1), (1, 0, 1)), True)
        self.shown((1, 1, 4), (2, 2), ((0, 0, 2), (0, 1, 1)), True)
        self.shown((1, 1, 4), (2, 2), ((0, 0, 2), (0, 0, 2)), False)
        self.shown((1, 1, 4), (2, 2), ((0, 1, 1), (0, 1, 1)), False)

    def test_one_coin_too_many_or_too_few(self):
        for parts, coins in (((1, 1), (1, 1)), ((1, 2, 3), (5, 7)), ((4, 4, 4, 1), (MILLION, 1))):
            rows = table(parts, coins)
            for night, payer, more in itertools.product(range(len(rows)), range(len(parts)), (-1, 1)):
                self.shown(parts, coins, put(rows, night, put(rows[night], payer, rows[night][payer] + more)), False)

    def test_each_part_otherwise(self):
        parts, coins = (2, 0, 3), (5, 1, 4)
        rows = table(parts, coins)
        self.shown(parts, coins, rows, True)
        for night, payer in itertools.product(range(3), range(3)):
            for thing in (*no_numbers(0, 5), [rows[night][payer]], (rows[night][payer],), str(rows[night][payer])):
                self.shown(parts, coins, put(rows, night, put(rows[night], payer, thing)), False)

    def test_truths_are_no_coins(self):
        self.shown((1,), (1,), ((1,),), True)
        self.shown((1,), (1,), ((True,),), False)
        self.shown((0, 1), (1,), ((False, 1),), False)

    def test_rows_left_out_twice_or_put_in(self):
        parts, coins = (2, 1, 3), (5, 1, 0)
        rows = table(parts, coins)
        for night in range(3):
            self.shown(parts, coins, rows[:night] + rows[night + 1:], False)
            self.shown(parts, coins, rows[:night] + rows[night:night + 1] * 2 + rows[night + 1:], False)
            self.shown(parts, coins, put(rows, night, list(rows[night])), False)
            self.shown(parts, coins, put(rows, night, rows[night][:-1]), False)
            self.shown(parts, coins, put(rows, night, (*rows[night], 0)), False)
            for thing in NO_TUPLES:
                self.shown(parts, coins, put(rows, night, thing), False)
        self.shown(parts, coins, (*rows, (0, 0, 0)), False)
        self.shown(parts, coins, ((0, 0, 0), *rows), False)
        self.shown(parts, coins, list(rows), False)
        self.shown(parts, coins, (rows,), False)
        self.shown(parts, coins, rows[::-1], False)

    def test_of_anything(self):
        for thing in (*NO_TUPLES, *NO_WHOLES, (), ((),), ((), ()), nest(8), ((0,),) * 500, ((0, 0), 0)):
            self.shown((1, 2), (5, 6), thing, False)
            self.shown((1,), (1,), thing, thing == ((1,),))
            self.shown((1, 1, 1, 1), (0,), thing, False)

    def test_refusals(self):
        wrongs = {"parts": (NoParts, NO_PARTS), "coins": (NoCoins, NO_AMOUNTS), "thing": (None, ())}
        rights = (((1,), (0,), ((0,),)), ((0, 99, 0, 1), (MILLION,) * 8, None), ((1, 1), (1, 1), {"a": [1]}))
        self.check_refused(is_table, rights, wrongs)


if __name__ == "__main__":
    unittest.main()
