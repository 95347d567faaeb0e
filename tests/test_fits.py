"""Points 20 and 21: whether stays fit by nights, what is left on a night, where a stay more could begin."""

import itertools
import random
import unittest

from nightsheld.errors import NoHouse, NoKind, NoNight, NoNights, NoStays
from nightsheld.fits import begins, fits, left
from tests.asking import Asking
from tests.things import ALL_MEET, MOVE_HOUSE, MOVE_STAYS, NO_HOUSES, NO_STAYS, no_numbers, some_cases
from tests.trying import fits_due, left_due


def begins_due(house, stays, kind, nights):
    return tuple(first for first in range(21) if fits_due(house, (*stays, (kind, first, nights))) == ("fits",))


class TestFits(Asking):
    def due(self, house, stays, told):
        with self.subTest(house=house, stays=stays):
            self.assertEqual(self.answer(fits, house=house, stays=stays), told)

    def test_no_stays(self):
        for house in ((1,), (3,), (1, 2, 3), (3, 3, 3, 3, 3)):
            self.due(house, (), ("fits",))

    def test_one_room_and_one_stay_of_each_kind(self):
        for room, kind, first, nights in itertools.product((1, 2, 3), (1, 2, 3), (0, 20), (1, 8)):
            told = ("fits",) if kind <= room else ("over", first, room + 1, 1, 0)
            self.due((room,), ((kind, first, nights),), told)

    def test_one_room_and_two_stays(self):
        self.due((1,), ((1, 0, 3), (1, 3, 1)), ("fits",))
        self.due((1,), ((1, 0, 3), (1, 2, 1)), ("over", 2, 1, 2, 1))
        self.due((1,), ((1, 0, 3), (1, 0, 3)), ("over", 0, 1, 2, 1))

    def test_the_first_night_is_told(self):
        self.due((2,), ((2, 9, 2), (2, 10, 1), (1, 4, 2), (1, 5, 1)), ("over", 5, 1, 2, 1))
        self.due((2,), ((1, 4, 8), (3, 11, 1), (1, 20, 1), (1, 20, 1)), ("over", 11, 1, 2, 1))

    def test_the_least_kind_is_told(self):
        self.due((1, 1, 2), ((3, 4, 1), (2, 4, 1)), ("over", 4, 2, 2, 1))
        self.due((1, 1, 2), ((3, 4, 1), (1, 4, 1)), ("over", 4, 3, 1, 0))
        self.due((1, 1, 2), ((3, 4, 1), (2, 4, 1), (1, 4, 1), (1, 4, 1)), ("over", 4, 1, 4, 3))

    def test_greater_rooms_serve_lesser_stays(self):
        self.due((3, 3, 3, 3, 3), ((1, 0, 1), (1, 0, 1), (2, 0, 1), (2, 0, 1), (3, 0, 1)), ("fits",))
        self.due((1, 2, 3), ((1, 6, 2), (2, 6, 2), (3, 6, 2)), ("fits",))
        self.due((1, 2, 3), ((2, 6, 2), (2, 6, 2), (2, 6, 2)), ("over", 6, 2, 3, 2))

    def test_five_rooms_and_eight_stays_that_all_meet(self):
        self.due((3,) * 5, ALL_MEET, ("over", 20, 1, 8, 5))
        self.due((3,) * 5, ((3, 20, 8),) * 8, ("over", 20, 1, 8, 5))
        self.due((1,) * 5, ((1, 0, 8),) * 8, ("over", 0, 1, 8, 5))

    def test_five_rooms_and_eight_stays_that_fit(self):
        self.due((1,) * 5, ((1, 0, 8),) * 5 + ((1, 8, 8),) * 3, ("fits",))
        self.due((1,) * 5, ((1, 0, 8),) * 5 + ((1, 8, 8), (1, 7, 8), (1, 8, 8)), ("over", 7, 1, 6, 5))

    def test_stays_that_need_a_move_fit(self):
        self.due(MOVE_HOUSE, MOVE_STAYS, ("fits",))

    def test_each_house_of_three_rooms_and_all_kinds_on_one_night(self):
        for many in range(1, 4):
            for house in itertools.combinations_with_replacement((3, 1, 2), many):
                for size in range(5):
                    for kinds in itertools.combinations_with_replacement((2, 1, 3), size):
                        stays = tuple((kind, 6, 1 + at) for at, kind in enumerate(kinds))
                        self.due(house, stays, fits_due(house, stays))

    def test_other_houses(self):
        for house, stays in some_cases(random.Random(20), 150, 5, 8, 14, 8):
            self.due(house, stays, fits_due(house, stays))

    def test_refusals(self):
        rights = (((1,), ()), ((3,) * 5, ALL_MEET))
        self.check_refused(fits, rights, {"house": (NoHouse, NO_HOUSES), "stays": (NoStays, NO_STAYS)})


class TestLeft(Asking):
    def due(self, house, stays, night, kind, told):
        with self.subTest(house=house, stays=stays, night=night, kind=kind):
            self.assertEqual(self.answer(left, house=house, stays=stays, night=night, kind=kind), told)

    def test_an_empty_house(self):
        for night in (0, 20, 27, 28, 40):
            for kind, told in ((1, 5), (2, 3), (3, 2)):
                self.due((1, 2, 3, 3, 1), (), night, kind, told)

    def test_one_room(self):
        for room, kind in itertools.product((1, 2, 3), (1, 2, 3)):
            self.due((room,), (), 0, kind, 1 if kind <= room else 0)
            self.due((room,), ((1, 0, 1),), 0, kind, 0)
            self.due((room,), ((1, 0, 1),), 1, kind, 1 if kind <= room else 0)

    def test_only_the_rooms_that_are_left_count(self):
        stays = ((1, 3, 2), (1, 3, 2), (2, 4, 4))
        self.due((1, 1, 2, 3), stays, 2, 1, 4)
        self.due((1, 1, 2, 3), stays, 3, 1, 2)
        self.due((1, 1, 2, 3), stays, 3, 2, 2)
        self.due((1, 1, 2, 3), stays, 4, 1, 1)
        self.due((1, 1, 2, 3), stays, 4, 3, 1)
        self.due((1, 1, 2, 3), stays, 5, 1, 3)
        self.due((1, 1, 2, 3), stays, 5, 2, 1)

    def test_lesser_stays_bind_greater_kinds_where_they_need_the_rooms(self):
        self.due((1, 3), ((1, 0, 1),), 0, 3, 1)
        self.due((1, 3), ((1, 0, 1), (1, 0, 1)), 0, 3, 0)
        self.due((2, 2, 3), ((1, 0, 1), (2, 0, 1)), 0, 3, 1)

    def test_nought_where_those_that_sleep_can_not(self):
        self.due((1, 1, 1), ((3, 5, 1),), 5, 1, 0)
        self.due((1, 1, 1), ((3, 5, 1),), 4, 1, 3)
        self.due((3, 3), ((1, 5, 1),) * 3, 5, 1, 0)
        self.due((1, 1, 1, 3, 3), ((3, 5, 1),) * 3, 5, 1, 0)
        self.due((3,) * 5, ALL_MEET, 20, 3, 0)

    def test_another_night_that_is_over_does_not_count(self):
        self.due((1, 2), ((3, 5, 1), (1, 6, 1)), 6, 1, 1)

    def test_the_last_nights(self):
        self.due((1, 2), ((2, 20, 8),), 27, 2, 0)
        self.due((1, 2), ((2, 20, 8),), 28, 2, 1)
        self.due((1, 2), ((2, 20, 8),), 40, 1, 2)

    def test_each_night_and_kind_of_other_houses(self):
        for house, stays in some_cases(random.Random(21), 40, 5, 8, 6, 4):
            for night, kind in itertools.product(range(11), (1, 2, 3)):
                self.due(house, stays, night, kind, left_due(house, stays, night, kind))

    def test_refusals(self):
        wrongs = {
            "house": (NoHouse, NO_HOUSES),
            "stays": (NoStays, NO_STAYS),
            "night": (NoNight, no_numbers(0, 40)),
            "kind": (NoKind, no_numbers(1, 3)),
        }
        self.check_refused(left, (((1,), (), 0, 1), ((3,) * 5, ALL_MEET, 40, 3)), wrongs)


class TestBegins(Asking):
    def due(self, house, stays, kind, nights, told):
        with self.subTest(house=house, stays=stays, kind=kind, nights=nights):
            self.assertEqual(self.answer(begins, house=house, stays=stays, kind=kind, nights=nights), told)

    def test_an_empty_house(self):
        for kind, nights in itertools.product((1, 2, 3), (1, 8)):
            self.due((3,), (), kind, nights, tuple(range(21)))
            self.due((kind,), (), kind, nights, tuple(range(21)))

    def test_no_room_of_the_kind(self):
        self.due((1,), (), 2, 1, ())
        self.due((2, 1, 2, 2, 1), (), 3, 8, ())

    def test_around_one_stay(self):
        self.due((1,), ((1, 10, 2),), 1, 1, tuple(range(10)) + tuple(range(12, 21)))
        self.due((1,), ((1, 10, 2),), 1, 3, tuple(range(8)) + tuple(range(12, 21)))
        self.due((1,), ((1, 10, 8),), 1, 8, (0, 1, 2, 18, 19, 20))

    def test_at_the_ends(self):
        self.due((1,), ((1, 0, 8), (1, 13, 8)), 1, 5, (8,))
        self.due((1,), ((1, 0, 8), (1, 12, 8)), 1, 5, (20,))
        self.due((1,), ((1, 1, 8), (1, 9, 8), (1, 17, 8)), 1, 1, (0,))
        self.due((1,), ((1, 0, 7), (1, 7, 7), (1, 14, 7)), 1, 1, ())
        self.due((1,), ((1, 0, 7), (1, 7, 7), (1, 14, 6)), 1, 8, (20,))

    def test_beside_eight_stays(self):
        self.due((1,) * 5, ((1, 0, 8),) * 4 + ((1, 8, 8),) * 4, 1, 8, tuple(range(21)))
        self.due((1,) * 5, ((1, 0, 8),) * 5 + ((1, 16, 1),) * 3, 1, 8, tuple(range(8, 21)))

    def test_none_where_the_stays_alone_do_not_fit(self):
        self.due((1, 1), ((3, 0, 1),), 1, 1, ())
        self.due((1, 1), ((1, 20, 8),) * 3, 1, 1, ())
        self.due((3,) * 5, ALL_MEET, 1, 1, ())

    def test_a_stay_that_would_need_a_move_may_begin(self):
        self.due(MOVE_HOUSE, MOVE_STAYS[:3], 2, 1, tuple(range(2, 21)))
        self.due(MOVE_HOUSE, MOVE_STAYS[:2] + MOVE_STAYS[3:], 1, 2, (1, *range(2, 21)))

    def test_other_houses(self):
        for house, stays in some_cases(random.Random(22), 25, 4, 8, 20, 8):
            for kind, nights in itertools.product((1, 2, 3), (1, 3, 8)):
                self.due(house, stays, kind, nights, begins_due(house, stays, kind, nights))

    def test_refusals(self):
        wrongs = {
            "house": (NoHouse, NO_HOUSES),
            "stays": (NoStays, NO_STAYS),
            "kind": (NoKind, no_numbers(1, 3)),
            "nights": (NoNights, no_numbers(1, 8)),
        }
        self.check_refused(begins, (((1,), (), 1, 1), ((3,) * 5, ALL_MEET, 3, 8)), wrongs)


if __name__ == "__main__":
    unittest.main()
