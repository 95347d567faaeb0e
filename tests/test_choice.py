"""Point 100: which requests are best taken, and the least worth by which one is among them."""

import itertools
import random
import unittest

from nightsheld.choice import best, least_worth
from nightsheld.errors import NoHouse, NoNumber, NoRequests, NoStays
from nightsheld.fits import fits
from tests.asking import Asking
from tests.things import (
    ALL_MEET, MOVE_HOUSE, MOVE_STAYS, NO_HOUSES, NO_STAY, NO_STAYS, NO_TUPLES, nest, no_numbers, put, some_cases,
)
from tests.trying import fits_due

TWO = (((1, 0, 1), 5), ((1, 0, 1), 7))
EIGHT = tuple((stay, 1000 - number) for number, stay in enumerate(ALL_MEET))
# One request for eight nights, and seven that each sleep on one of them.
WHOLE_WEEK = (((1, 0, 8), 0), *[((1, at, 1), 1000) for at in range(7)])

NO_REQUESTS = (
    EIGHT + TWO[:1], TWO * 50, TWO[0], ((),), ((1, 0, 1),), (((1, 0, 1),),), (((1, 0, 1), 5, 5),), ((5, (1, 0, 1)),),
    ((1, 0, 1, 5),), ([(1, 0, 1), 5],), (([1, 0, 1], 5),), (*TWO, [(1, 0, 1), 5]), (*TWO, None), (TWO,), list(TWO),
    {0: TWO[0]}, nest(8), *[((thing, 5),) for thing in NO_STAY], *[(*TWO, (thing, 5)) for thing in NO_STAY[::5]],
    *[(((1, 0, 1), thing),) for thing in no_numbers(0, 1000)],
    *[(*TWO, ((1, 0, 1), thing)) for thing in (-1, 1001, True)],
    *NO_TUPLES,
)


def lots_due(house, stays, requests, asked=fits_due):
    """Each rising tuple of numbers of requests that fit with all stays: by trying them all."""
    numbers = range(len(requests))
    lots = [lot for size in range(len(requests) + 1) for lot in itertools.combinations(numbers, size)]
    return [lot for lot in lots if asked(house, (*stays, *[requests[at][0] for at in lot])) == ("fits",)]


def best_due(lots, worths):
    sums = {lot: sum(worths[number] for number in lot) for lot in lots}
    if not sums:
        return None
    most = max(sums.values())
    return most, min(lot for lot in lots if sums[lot] == most)


def is_taken(lots, worths, number, worth):
    told = best_due(lots, [worth if at == number else own for at, own in enumerate(worths)])
    return told is not None and number in told[1]


def least_worth_due(lots, worths, number):
    """One worth after the other; none is tried where no lot has the number."""
    if not any(number in lot for lot in lots):
        return None
    return next((worth for worth in range(8002) if is_taken(lots, worths, number, worth)), None)


def some_requests(chance, most, last_first, most_worth):
    return tuple(
        (
            (chance.choice((1, 1, 2, 3)), chance.randint(0, last_first), chance.randint(1, 3)),
            chance.randint(0, most_worth),
        )
        for request in range(chance.randint(0, most))
    )


class TestBest(Asking):
    def due(self, house, stays, requests, told):
        with self.subTest(house=house, stays=stays, requests=requests):
            self.assertEqual(repr(self.answer(best, house=house, stays=stays, requests=requests)), repr(told))

    def test_no_requests(self):
        self.due((1,), (), (), (0, ()))
        self.due((1,), ((1, 0, 8),), (), (0, ()))

    def test_stays_that_do_not_fit_alone(self):
        self.due((1,), ((1, 0, 1), (1, 0, 1)), (), None)
        self.due((1,), ((1, 0, 1), (1, 0, 1)), (((1, 9, 1), 1000),), None)
        self.due((1,), ((2, 0, 1),), TWO, None)

    def test_one_request(self):
        self.due((1,), (), (((1, 0, 1), 5),), (5, (0,)))
        self.due((1,), (), (((1, 0, 1), 1000),), (1000, (0,)))
        self.due((1,), ((1, 0, 1),), (((1, 0, 1), 5),), (0, ()))
        self.due((1,), ((1, 1, 1),), (((1, 0, 1), 5),), (5, (0,)))

    def test_the_greatest_worth(self):
        self.due((1,), (), TWO, (7, (1,)))
        self.due((1, 1), (), TWO, (12, (0, 1)))
        self.due((1,), (), (((1, 0, 3), 5), ((1, 0, 1), 3), ((1, 2, 1), 3)), (6, (1, 2)))
        self.due((1,), (), (((1, 0, 3), 7), ((1, 0, 1), 3), ((1, 2, 1), 3)), (7, (0,)))

    def test_of_as_much_worth_the_least_numbers(self):
        self.due((1,), (), (((1, 0, 1), 5), ((1, 0, 1), 5)), (5, (0,)))
        self.due((1,), (), (((1, 0, 3), 6), ((1, 0, 1), 3), ((1, 2, 1), 3)), (6, (0,)))
        self.due((1,), (), (((1, 0, 1), 3), ((1, 0, 3), 6), ((1, 2, 1), 3)), (6, (0, 2)))
        self.due((1,), (), (((1, 0, 1), 3), ((1, 2, 1), 3), ((1, 0, 3), 6)), (6, (0, 1)))

    def test_a_worth_of_0(self):
        # Behind all others of worth it is left out, ahead of one it makes the tuple less.
        self.due((1,), (), (((1, 0, 1), 0),), (0, ()))
        self.due((1, 1), (), (((1, 0, 1), 5), ((1, 0, 1), 0)), (5, (0,)))
        self.due((1, 1), (), (((1, 0, 1), 0), ((1, 0, 1), 5)), (5, (0, 1)))
        self.due((1, 1), (), (((1, 0, 1), 0), ((1, 0, 1), 0)), (0, ()))
        self.due((1,), (), (((1, 0, 1), 0), ((1, 0, 1), 5)), (5, (1,)))

    def test_requests_that_never_fit(self):
        self.due((1,), (), (((2, 0, 1), 1000), ((1, 0, 1), 1)), (1, (1,)))
        self.due((1, 1), (), (((3, 0, 1), 1000),), (0, ()))
        self.due((2,), ((1, 0, 8),), (((1, 7, 1), 1000), ((1, 8, 1), 2)), (2, (1,)))

    def test_eight_requests(self):
        self.due((3,) * 5, (), EIGHT, (4990, (0, 1, 2, 3, 4)))
        self.due((1,), (), WHOLE_WEEK, (7000, (1, 2, 3, 4, 5, 6, 7)))
        self.due((1, 1), (), WHOLE_WEEK, (7000, (0, 1, 2, 3, 4, 5, 6, 7)))
        self.due((1,), (), tuple(((1, at, 1), 1000) for at in range(8)), (8000, tuple(range(8))))
        self.due((3,), (), (((3, 20, 8), 1000),) * 8, (1000, (0,)))

    def test_eight_requests_and_eight_stays(self):
        stays = tuple((1, at, 1) for at in range(8))
        self.due((1, 1), stays, WHOLE_WEEK, (7000, tuple(range(1, 8))))
        self.due((1,), stays, WHOLE_WEEK, (0, ()))

    def test_they_fit_by_nights_though_they_have_no_plan(self):
        requests = tuple((stay, 10) for stay in MOVE_STAYS)
        self.due(MOVE_HOUSE, (), requests, (40, (0, 1, 2, 3)))
        self.due(MOVE_HOUSE, MOVE_STAYS[:2], requests[2:], (20, (0, 1)))

    def test_others(self):
        chance = random.Random(100)
        for house, stays in some_cases(chance, 120, 4, 2, 3, 3):
            requests = some_requests(chance, 5, 4, chance.choice((1, 3, 1000)))
            worths = [worth for stay, worth in requests]
            self.due(house, stays, requests, best_due(lots_due(house, stays, requests), worths))

    def test_others_of_eight(self):
        chance = random.Random(101)
        for house, stays in some_cases(chance, 12, 5, 4, 8, 4):
            requests = (*some_requests(chance, 4, 8, 2), *some_requests(chance, 4, 8, 1000))
            worths = [worth for stay, worth in requests]
            self.due(house, stays, requests, best_due(lots_due(house, stays, requests, fits), worths))

    def test_refusals(self):
        wrongs = {
            "house": (NoHouse, NO_HOUSES), "stays": (NoStays, NO_STAYS), "requests": (NoRequests, NO_REQUESTS),
        }
        self.check_refused(best, (((1, 2), (), TWO),), wrongs)
        # Refused, too, where the stays alone don't fit.
        for requests in NO_REQUESTS:
            self.assertIs(self.refusal(best, house=(1,), stays=ALL_MEET, requests=requests), NoRequests)


class TestLeastWorth(Asking):
    def due(self, house, stays, requests, number, told):
        given = {"house": house, "stays": stays, "requests": requests, "number": number}
        with self.subTest(**given):
            self.assertEqual(repr(self.answer(least_worth, **given)), repr(told))

    def test_alone(self):
        # With 0 nothing at all is the lesser tuple.
        self.due((1,), (), (((1, 0, 1), 0),), 0, 1)
        self.due((1,), (), (((1, 0, 1), 1000),), 0, 1)

    def test_none_where_it_never_fits(self):
        self.due((1,), (), (((2, 0, 1), 1000),), 0, None)
        self.due((1,), ((1, 0, 1),), (((1, 0, 1), 1000), ((1, 1, 1), 0)), 0, None)
        self.due((1,), ((1, 0, 1),), (((1, 0, 1), 1000), ((1, 1, 1), 0)), 1, 1)

    def test_none_where_the_stays_alone_do_not_fit(self):
        self.due((1,), ((1, 0, 1), (1, 0, 1)), (((1, 9, 1), 1000),), 0, None)
        for number in range(8):
            self.due((1,), ALL_MEET, EIGHT, number, None)

    def test_0_is_enough_ahead_of_one_that_is_taken_with_it(self):
        self.due((1, 1), (), (((1, 0, 1), 9), ((1, 0, 1), 5)), 0, 0)
        self.due((1, 1), (), (((1, 0, 1), 9), ((1, 0, 1), 5)), 1, 1)
        self.due((1,), (), (((1, 0, 1), 0), ((1, 1, 1), 5), ((1, 2, 1), 5)), 0, 0)
        self.due((1,), (), (((1, 0, 1), 5), ((1, 1, 1), 0), ((1, 2, 1), 5)), 1, 0)
        self.due((1,), (), (((1, 0, 1), 5), ((1, 1, 1), 5), ((1, 2, 1), 0)), 2, 1)

    def test_as_much_as_another_one(self):
        self.due((1,), (), TWO, 0, 7)
        self.due((1,), (), TWO, 1, 6)
        self.due((1,), (), (((1, 0, 1), 0), ((1, 0, 1), 0)), 0, 1)
        self.due((1,), (), (((1, 0, 1), 0), ((1, 0, 1), 0)), 1, 1)

    def test_its_own_worth_does_not_count(self):
        for worth in (0, 1, 6, 7, 8, 999, 1000):
            self.due((1,), (), (((1, 0, 1), worth), ((1, 0, 1), 7)), 0, 7)
            self.due((1,), (), (((1, 0, 1), 7), ((1, 0, 1), worth)), 1, 8)

    def test_above_1000(self):
        self.due((1,), (), WHOLE_WEEK, 0, 7000)
        self.due((1,), (), WHOLE_WEEK[1:] + WHOLE_WEEK[:1], 7, 7001)
        self.due((1,), (), WHOLE_WEEK[:2], 0, 1000)
        self.due((1,), (), WHOLE_WEEK[1::-1], 1, 1001)
        self.due((1,), (), (WHOLE_WEEK[1], WHOLE_WEEK[0], WHOLE_WEEK[2]), 1, 2001)

    def test_each_of_eight(self):
        worths = [worth for stay, worth in EIGHT]
        for house in ((3,) * 5, (1, 2, 3), (2, 2)):
            lots = lots_due(house, (), EIGHT, fits)
            for number in range(8):
                told = least_worth(house, (), EIGHT, number)
                self.due(house, (), EIGHT, number, told)
                self.assertEqual(told is None, not any(number in lot for lot in lots))
                if told is not None:
                    for worth in (told, told + 1, 1000, 2000, 8001):
                        self.assertEqual(is_taken(lots, worths, number, worth), worth >= told)
                    self.assertFalse(told > 0 and is_taken(lots, worths, number, told - 1))

    def test_others(self):
        chance = random.Random(102)
        found = set()
        for house, stays in some_cases(chance, 80, 4, 2, 3, 3):
            requests = some_requests(chance, 5, 4, chance.choice((1, 3, 30)))
            worths = [worth for stay, worth in requests]
            lots = lots_due(house, stays, requests)
            for number in range(len(requests)):
                told = least_worth_due(lots, worths, number)
                found.add(told)
                self.due(house, stays, requests, number, told)
        self.assertTrue({None, 0, 1, 2} <= found)

    def test_with_that_worth_or_more_it_is_among_the_best_with_less_not(self):
        chance = random.Random(103)
        for house, stays in some_cases(chance, 60, 4, 2, 3, 3):
            requests = some_requests(chance, 6, 4, 500)
            for number, (stay, own) in enumerate(requests):
                least = least_worth(house, stays, requests, number)
                near = [] if least is None else [least - 1, least, least + 1]
                for worth in (0, 1, 250, 1000, own, *near):
                    if 0 <= worth <= 1000:
                        told = best(house, stays, put(requests, number, (stay, worth)))
                        taken = told is not None and number in told[1]
                        self.assertEqual(taken, least is not None and worth >= least)

    def test_refusals(self):
        wrongs = {
            "house": (NoHouse, NO_HOUSES), "stays": (NoStays, NO_STAYS), "requests": (NoRequests, NO_REQUESTS),
            "number": (NoNumber, no_numbers(0, 1)),
        }
        self.check_refused(least_worth, (((1, 2), (), TWO, 1),), wrongs)

    def test_a_request_of_each_number_and_no_other(self):
        for number in (-1, 0, 1, 8):
            self.assertIs(self.refusal(least_worth, house=(1,), stays=(), requests=(), number=number), NoNumber)
        for number in (-1, 8, 9, -8):
            self.assertIs(self.refusal(least_worth, house=(1,), stays=(), requests=EIGHT, number=number), NoNumber)
        # Refused, too, where the stays alone don't fit.
        self.assertIs(self.refusal(least_worth, house=(1,), stays=ALL_MEET, requests=TWO, number=2), NoNumber)


if __name__ == "__main__":
    unittest.main()
