"""Points 80 and 81: what is known on a day, the rows that are told anew, and the first wrong one."""

import random
import unittest

from nightsheld.bills import nightly
from nightsheld.errors import NoBook, NoDay, NoTold
from nightsheld.truths import first_wrong, known, told_rows
from tests.asking import Asking
from tests.things import FAR_NUMBERS, NO_TUPLES, NO_WHOLES, TEXTS, nest, no_numbers, put

FLAT = ((10,) * 7, (20,) * 7, (30,) * 7)
DEAR = ((10,) * 7, (25,) * 7, (1000,) * 7)
WEEKS = ((10, 11, 12, 13, 14, 15, 16), (20, 21, 22, 23, 24, 25, 26), (0, 1000, 0, 1000, 0, 1000, 1))
FREE = ((0,) * 7,) * 3
PLAIN = (0, (0, 1))
EACH_SECOND = (2, (1, 10))
SHORT = (1, 3, 2)
LONG = (3, 20, 8)

THREE = ((5, "stay", SHORT), (5, "prices", FLAT), (5, "rule", PLAIN))
FIRST = ((0, "stay", SHORT), (0, "prices", FLAT), (0, "rule", PLAIN))
LAST = ((99, "stay", LONG), (99, "prices", DEAR), (99, "rule", EACH_SECOND))
# The stay comes longer, of another kind, is taken back, and all this on few days.
TEN = (
    *THREE, (5, "stay", (1, 4, 2)), (7, "prices", DEAR), (7, "stay", (2, 4, 3)), (9, "rule", EACH_SECOND),
    (9, "rule", EACH_SECOND), (40, "stay", (2, 4, 3)), (99, "stay", (3, 0, 1)),
)
TEN_ROWS = (
    (5, 4, 10), (5, 5, 10), (7, 4, 15), (7, 5, 15), (7, 6, 25), (9, 5, -25), (99, 0, 1000), (99, 4, -25), (99, 6, -25),
)

NO_STAY = (None, (), (1, 0), (0, 0, 1), (1, 21, 1), (1, 0, 9), (True, 0, 1), [1, 0, 1], PLAIN, FLAT)
NO_PRICES = (None, (), FLAT[:2], (*FLAT, FLAT[0]), list(FLAT), put(FLAT, 1, (1001,) * 7), SHORT, PLAIN)
NO_RULE = (None, (), (0,), (1, (0, 1)), (9, (0, 1)), (0, (2, 4)), (0, (2, 1)), [0, (0, 1)], (0, [0, 1]), SHORT, FLAT)
NO_WORDS = (
    "Stay", "stays", " stay", "stay ", "STAY", "price", "rules", "kind", None, True, 0, 1, (), [], {}, TEXTS,
    ["stay"], ("stay",), {"stay": SHORT}, *TEXTS,
)

NO_TRUTHS = (
    (), (5,), (5, "stay"), (5, "stay", SHORT, SHORT), [5, "stay", SHORT], ("stay", SHORT), ("stay", 5, SHORT),
    ((5, "stay", SHORT),), nest(8), *NO_TUPLES, *[(5, "stay", thing) for thing in NO_STAY],
    *[(5, "prices", thing) for thing in NO_PRICES], *[(5, "rule", thing) for thing in NO_RULE],
    *[(5, word, thing) for word in NO_WORDS for thing in (SHORT, FLAT, PLAIN)],
    *[(thing, "stay", SHORT) for thing in no_numbers(0, 99)],
)

OUT_OF_ORDER = [
    tuple(THREE[at] for at in order)
    for order in ((0, 2, 1), (1, 0, 2), (1, 2, 0), (2, 0, 1), (2, 1, 0), (0, 0, 1), (0, 1, 1), (0, 0, 0), (0, 1, 0))
]

NO_BOOKS = (
    (), THREE[:1], THREE[:2], THREE[1:], (*TEN, TEN[-1]), THREE * 4, (THREE,), list(THREE), THREE[0], nest(8),
    *OUT_OF_ORDER, *[(*book, *THREE) for book in OUT_OF_ORDER],
    put(THREE, 0, (4, "stay", SHORT)), put(THREE, 2, (6, "rule", PLAIN)), put(THREE, 1, (6, "prices", FLAT)),
    (THREE[0], (6, "prices", FLAT), (6, "rule", PLAIN)), (*THREE, (4, "stay", SHORT)), (*THREE, (0, "rule", PLAIN)),
    (*THREE, (9, "stay", SHORT), (8, "stay", SHORT)),
    (*THREE, (9, "stay", SHORT), (8, "stay", SHORT), (9, "rule", PLAIN)),
    *[put(THREE, 0, thing) for thing in NO_TRUTHS], *[(*THREE, thing) for thing in NO_TRUTHS],
    *[put(TEN, 8, (99, *thing[1:])) for thing in NO_TRUTHS[3:60] if isinstance(thing, tuple)], *NO_TUPLES,
)

NO_ROWS = (
    (1, 2, 3), ((1, 2),), ((1, 2, 3, 4),), ((),), ([1, 2, 3],), (((1, 2, 3),),), ((1, 2, 3), [1, 2, 3]),
    ((1, 2, 3), (1, 2)), ((1, 2, 3), None), ((1, 2, 3), 4), list(TEN_ROWS), nest(8),
    *[((5, 4, 10), put((5, 5, 10), at, thing)) for at in range(3) for thing in NO_WHOLES], *NO_TUPLES,
)


def known_due(book, day):
    facts = {}
    for told, word, thing in book:
        if told <= day:
            facts[word] = thing
    return (facts["stay"], facts["prices"], facts["rule"]) if facts else None


def coins_due(book, day):
    """By each night that costs something on the day its coins."""
    facts = known_due(book, day)
    if facts is None:
        return {}
    stay, prices, rule = facts
    costs = nightly(prices, rule, stay)
    return {night: cost for night, cost in zip(range(stay[1], stay[1] + stay[2]), costs) if cost}


def rows_due(book):
    """Day by day, of all days, whether something is told then or not."""
    rows = []
    for day in range(100):
        ahead, now = coins_due(book, day - 1), coins_due(book, day)
        for night in range(50):
            more = now.get(night, 0) - ahead.get(night, 0)
            if more:
                rows.append((day, night, more))
    return tuple(rows)


def some_book(chance):
    def some_stay():
        return (chance.randint(1, 3), chance.choice((0, 3, 5, 20)), chance.randint(1, 8))

    def some_prices():
        return chance.choice((FLAT, DEAR, WEEKS, FREE))

    def some_rule():
        return (chance.choice((0, 2, 3, 8)), chance.choice(((0, 1), (1, 2), (1, 1))))

    makers = {"stay": some_stay, "prices": some_prices, "rule": some_rule}
    first = chance.choice((0, 0, 3, 50, 99))
    book = [(first, word, makers[word]()) for word in ("stay", "prices", "rule")]
    for truth in range(chance.randint(0, 7)):
        word = chance.choice(("stay", "stay", "prices", "rule"))
        day = min(99, book[-1][0] + chance.choice((0, 0, 1, 2, 30)))
        book.append((day, word, makers[word]()))
    return tuple(book)


class TestKnown(Asking):
    def due(self, book, day, told):
        with self.subTest(book=book, day=day):
            self.assertEqual(self.answer(known, book=book, day=day), told)

    def test_three_truths(self):
        for day in (5, 6, 50, 99):
            self.due(THREE, day, (SHORT, FLAT, PLAIN))

    def test_nothing_is_known_ahead_of_the_first_day(self):
        for day in (0, 1, 4):
            self.due(THREE, day, None)
        self.due(LAST, 98, None)
        self.due(LAST, 0, None)

    def test_the_ends_of_days(self):
        self.due(FIRST, 0, (SHORT, FLAT, PLAIN))
        self.due(FIRST, 99, (SHORT, FLAT, PLAIN))
        self.due(LAST, 99, (LONG, DEAR, EACH_SECOND))

    def test_ten_truths(self):
        self.due(TEN, 4, None)
        self.due(TEN, 5, ((1, 4, 2), FLAT, PLAIN))
        self.due(TEN, 6, ((1, 4, 2), FLAT, PLAIN))
        self.due(TEN, 7, ((2, 4, 3), DEAR, PLAIN))
        self.due(TEN, 8, ((2, 4, 3), DEAR, PLAIN))
        self.due(TEN, 9, ((2, 4, 3), DEAR, EACH_SECOND))
        self.due(TEN, 98, ((2, 4, 3), DEAR, EACH_SECOND))
        self.due(TEN, 99, ((3, 0, 1), DEAR, EACH_SECOND))

    def test_of_one_day_the_last_told(self):
        book = (*THREE, (8, "stay", LONG), (8, "stay", SHORT), (8, "prices", DEAR), (8, "stay", (2, 0, 1)))
        self.due(book, 7, (SHORT, FLAT, PLAIN))
        self.due(book, 8, ((2, 0, 1), DEAR, PLAIN))

    def test_others(self):
        chance = random.Random(80)
        for step in range(60):
            book = some_book(chance)
            for day in {0, 99, *[max(0, day - 1) for day, word, thing in book], *[day for day, word, thing in book]}:
                self.due(book, day, known_due(book, day))

    def test_refusals(self):
        wrongs = {"book": (NoBook, NO_BOOKS), "day": (NoDay, no_numbers(0, 99))}
        self.check_refused(known, ((THREE, 0), (TEN, 99)), wrongs)


class TestToldRows(Asking):
    def due(self, book, told):
        with self.subTest(book=book):
            self.assertEqual(self.answer(told_rows, book=book), told)
            self.assertEqual(told, rows_due(book))

    def test_three_truths(self):
        self.due(THREE, ((5, 3, 10), (5, 4, 10)))

    def test_the_ends_of_days_and_nights(self):
        self.due(((0, "stay", (1, 0, 1)), *FIRST[1:]), ((0, 0, 10),))
        self.due(LAST, ((99, 20, 1000), (99, 22, 1000), (99, 24, 1000), (99, 26, 1000)))
        book = (*FIRST, (99, "stay", LONG))
        self.due(book, ((0, 3, 10), (0, 4, 10), (99, 3, -10), (99, 4, -10), *[(99, at, 30) for at in range(20, 28)]))

    def test_ten_truths(self):
        self.due(TEN, TEN_ROWS)

    def test_nothing_costs_nothing(self):
        self.due(put(THREE, 1, (5, "prices", FREE)), ())
        self.due((*put(THREE, 1, (5, "prices", FREE)), (9, "stay", LONG), (9, "rule", EACH_SECOND)), ())

    def test_told_again_there_is_nothing_new(self):
        self.due((*THREE, *THREE, *THREE), ((5, 3, 10), (5, 4, 10)))
        self.due((*THREE, (6, "stay", SHORT), (7, "prices", FLAT), (8, "rule", PLAIN)), ((5, 3, 10), (5, 4, 10)))

    def test_what_is_taken_back_on_the_same_day_is_not_told(self):
        self.due((*THREE, (6, "stay", LONG), (6, "stay", SHORT)), ((5, 3, 10), (5, 4, 10)))
        self.due((*THREE, (5, "stay", LONG), (5, "stay", SHORT)), ((5, 3, 10), (5, 4, 10)))

    def test_what_is_taken_back_on_a_later_day_is_told_twice(self):
        rows = ((5, 3, 10), (5, 4, 10), (6, 4, -10), (7, 4, 10))
        self.due((*THREE, (6, "stay", (1, 3, 1)), (7, "stay", SHORT)), rows)

    def test_nights_come_and_go(self):
        rows = ((5, 3, 10), (5, 4, 10), (6, 3, -10), (6, 5, 10), (8, 4, -10), (8, 5, -10), (8, 0, 10))
        self.due((*THREE, (6, "stay", (1, 4, 2)), (8, "stay", (1, 0, 1))), tuple(sorted(rows)))

    def test_another_tax_changes_no_night(self):
        self.due((*THREE, (6, "rule", (0, (1, 1)))), ((5, 3, 10), (5, 4, 10)))
        self.due((*THREE, (6, "rule", (8, (1, 2)))), ((5, 3, 10), (5, 4, 10)))

    def test_prices_of_another_kind_change_no_night(self):
        self.due((*THREE, (6, "prices", DEAR)), ((5, 3, 10), (5, 4, 10)))

    def test_rows_up_to_a_day_come_to_what_is_known(self):
        chance = random.Random(81)
        for step in range(150):
            book = some_book(chance)
            rows = told_rows(book)
            self.due(book, rows)
            for day in range(100):
                sums = {}
                for told, night, coins in rows:
                    if told <= day:
                        sums[night] = sums.get(night, 0) + coins
                self.assertEqual({night: coins for night, coins in sums.items() if coins}, coins_due(book, day))

    def test_refusals(self):
        for book in NO_BOOKS:
            with self.subTest(book=repr(book)[:200]):
                self.assertIs(self.refusal(told_rows, book=book), NoBook)


class TestFirstWrong(Asking):
    def due(self, book, rows, told):
        with self.subTest(book=book, rows=rows):
            self.assertEqual(repr(self.answer(first_wrong, book=book, rows=rows)), repr(told))

    def test_what_is_told(self):
        self.due(THREE, ((5, 3, 10), (5, 4, 10)), None)
        self.due(TEN, TEN_ROWS, None)
        chance = random.Random(82)
        for step in range(50):
            book = some_book(chance)
            self.due(book, told_rows(book), None)

    def test_none_at_all(self):
        self.due(TEN, (), 0)
        self.due(THREE, (), 0)
        self.due(put(THREE, 1, (5, "prices", FREE)), (), None)

    def test_one_otherwise(self):
        for at, row in enumerate(TEN_ROWS):
            for place in range(3):
                for number in (row[place] - 1, row[place] + 1, -row[place] - 100, *FAR_NUMBERS):
                    self.due(TEN, put(TEN_ROWS, at, put(row, place, number)), at)

    def test_one_left_out(self):
        for at in range(len(TEN_ROWS)):
            self.due(TEN, TEN_ROWS[:at] + TEN_ROWS[at + 1:], at)
            self.due(TEN, TEN_ROWS[:at], at)

    def test_one_twice(self):
        for at in range(len(TEN_ROWS)):
            self.due(TEN, TEN_ROWS[:at] + (TEN_ROWS[at],) + TEN_ROWS[at:], at + 1)

    def test_one_too_many(self):
        for at in range(len(TEN_ROWS) + 1):
            self.due(TEN, TEN_ROWS[:at] + ((1, 2, 3),) + TEN_ROWS[at:], at)
        self.due(TEN, TEN_ROWS * 2, 9)
        self.due(TEN, TEN_ROWS + ((99, 6, 0),), 9)
        self.due(put(THREE, 1, (5, "prices", FREE)), ((5, 3, 0),), 0)
        self.due(TEN, ((0, 0, 0),) * 700, 0)

    def test_two_in_each_others_place(self):
        for at in range(len(TEN_ROWS) - 1):
            self.due(TEN, TEN_ROWS[:at] + TEN_ROWS[at:at + 2][::-1] + TEN_ROWS[at + 2:], at)

    def test_the_first_of_two(self):
        self.due(TEN, put(put(TEN_ROWS, 6, (0, 0, 0)), 2, (0, 0, 0)), 2)
        self.due(TEN, put(TEN_ROWS, 3, (0, 0, 0))[:7], 3)

    def test_rows_of_another_book(self):
        self.due(TEN, told_rows(THREE), 0)
        self.due((*THREE, (6, "stay", LONG)), told_rows(THREE), 2)
        self.due(THREE, told_rows((*THREE, (6, "stay", LONG))), 2)

    def test_refusals(self):
        wrongs = {"book": (NoBook, NO_BOOKS), "rows": (NoTold, NO_ROWS)}
        self.check_refused(first_wrong, ((THREE, ()), (TEN, TEN_ROWS)), wrongs)


if __name__ == "__main__":
    unittest.main()
