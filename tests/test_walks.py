"""Point 52: who is walked, and what they are paid."""

import itertools
import random
import unittest

from nightsheld.errors import NoCoins, NoGuests, NoNumber
from nightsheld.walks import paid_out, walked
from tests.asking import Asking
from tests.things import NO_TUPLES, nest, no_numbers

TWELVE = (
    (3, 0), (0, 999), (1, 500), (1, 500), (2, 7), (0, 0), (0, 999), (3, 999), (2, 7), (1, 501), (2, 8), (0, 1),
)

NO_GUESTS = (
    ((0, 0),) * 13, ((3, 999),) * 100, (0, 0), (1,), ((0,),), ((0, 0, 0),), ((),), ([0, 0],), ((0, 0), [0, 0]),
    ((0, 0), None), (((0, 0),),), nest(8), *[((0, 0), (thing, 0)) for thing in no_numbers(0, 3)],
    *[((0, thing), (0, 0)) for thing in no_numbers(0, 999)], *NO_TUPLES,
)


def walked_due(guests, rooms):
    """Who is walked: one after the other, each time the one whom nobody should be walked ahead of."""
    there = list(range(len(guests)))
    while len(there) > rooms:
        rank = min(guests[number][0] for number in there)
        booked = max(guests[number][1] for number in there if guests[number][0] == rank)
        there.remove(max(number for number in there if guests[number] == (rank, booked)))
    return tuple(number for number in range(len(guests)) if number not in there)


def some_guests(chance):
    last = chance.choice((1, 3, 999))
    return tuple((chance.randint(0, 3), chance.randint(0, last)) for guest in range(chance.randint(0, 12)))


class TestWalked(Asking):
    def due(self, guests, rooms, told):
        with self.subTest(guests=guests, rooms=rooms):
            self.assertEqual(self.answer(walked, guests=guests, rooms=rooms), told)

    def test_no_guests(self):
        for rooms in (0, 1, 12):
            self.due((), rooms, ())

    def test_rooms_enough(self):
        self.due(((0, 0), (0, 0)), 2, ())
        self.due(((0, 0), (0, 0)), 12, ())
        self.due(TWELVE, 12, ())

    def test_no_rooms(self):
        self.due(((3, 0),), 0, (0,))
        self.due(TWELVE, 0, tuple(range(12)))

    def test_the_lowest_ranks(self):
        self.due(((2, 1), (0, 1), (1, 1)), 2, (1,))
        self.due(((2, 1), (0, 1), (1, 1)), 1, (1, 2))
        self.due(((3, 999), (2, 0)), 1, (1,))

    def test_of_one_rank_those_booked_last(self):
        self.due(((1, 5), (1, 7), (1, 6)), 2, (1,))
        self.due(((1, 5), (1, 7), (1, 6)), 1, (1, 2))
        self.due(((1, 0), (1, 999), (0, 0)), 1, (1, 2))

    def test_of_one_rank_booked_alike_the_last_ones(self):
        self.due(((1, 5), (1, 5), (1, 5)), 2, (2,))
        self.due(((1, 5), (1, 5), (1, 5)), 1, (1, 2))
        self.due(((2, 9),) * 12, 5, (5, 6, 7, 8, 9, 10, 11))

    def test_each_number_of_rooms(self):
        for rooms in range(13):
            self.due(TWELVE, rooms, walked_due(TWELVE, rooms))
        self.due(TWELVE, 11, (6,))
        self.due(TWELVE, 10, (1, 6))
        self.due(TWELVE, 7, (1, 5, 6, 9, 11))
        self.due(TWELVE, 6, (1, 3, 5, 6, 9, 11))

    def test_others(self):
        chance = random.Random(54)
        for step in range(150):
            guests = some_guests(chance)
            rooms = chance.randint(0, 12)
            self.due(guests, rooms, walked_due(guests, rooms))

    def test_refusals(self):
        wrongs = {"guests": (NoGuests, NO_GUESTS), "rooms": (NoNumber, no_numbers(0, 12))}
        self.check_refused(walked, (((), 0), (TWELVE, 12)), wrongs)


class TestPaidOut(Asking):
    def due(self, guests, rooms, price, told):
        with self.subTest(guests=guests, rooms=rooms, price=price):
            self.assertEqual(self.answer(paid_out, guests=guests, rooms=rooms, price=price), told)

    def test_no_guests(self):
        self.due((), 0, 1000, ())

    def test_who_is_not_walked_is_paid_nothing(self):
        self.due(((0, 0), (3, 9)), 2, 1000, (0, 0))
        self.due(TWELVE, 12, 1000, (0,) * 12)

    def test_by_rank(self):
        self.due(((0, 0), (1, 0), (2, 0), (3, 0)), 0, 10, (10, 20, 30, 40))
        self.due(((3, 0), (2, 0), (1, 0), (0, 0)), 2, 7, (0, 0, 14, 7))

    def test_the_ends_of_prices(self):
        self.due(((0, 0), (3, 0)), 0, 0, (0, 0))
        self.due(((0, 0), (3, 0)), 0, 1, (1, 4))
        self.due(((0, 0), (3, 0)), 0, 1000, (1000, 4000))
        self.due(TWELVE, 10, 1000, (0, 1000, 0, 0, 0, 0, 1000, 0, 0, 0, 0, 0))

    def test_others(self):
        chance = random.Random(55)
        for step, price in itertools.product(range(40), (0, 1, 999)):
            guests = some_guests(chance)
            rooms = chance.randint(0, 8)
            gone = walked_due(guests, rooms)
            due = [price + price * guests[number][0] if number in gone else 0 for number in range(len(guests))]
            self.due(guests, rooms, price, tuple(due))

    def test_refusals(self):
        wrongs = {
            "guests": (NoGuests, NO_GUESTS),
            "rooms": (NoNumber, no_numbers(0, 12)),
            "price": (NoCoins, no_numbers(0, 1000)),
        }
        self.check_refused(paid_out, (((), 0, 0), (TWELVE, 12, 1000)), wrongs)


if __name__ == "__main__":
    unittest.main()
