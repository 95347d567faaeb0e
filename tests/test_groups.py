"""Point 90: what is left by what groups hold on a day, and the first day for a stay."""

import itertools
import random
import unittest

from nightsheld.errors import NoDay, NoGroups, NoHouse, NoKind, NoNight, NoStay, NoStays
from nightsheld.fits import fits, left
from nightsheld.groups import first_day, left_then
from tests.asking import Asking
from tests.things import ALL_MEET, NO_HOUSES, NO_STAY, NO_STAYS, NO_TUPLES, nest, no_numbers, some_cases
from tests.trying import fits_due, left_due

ONE = ((1, 4, 2, 1, 10),)
FOUR = ((1, 0, 8, 1, 99), (2, 3, 2, 2, 50), (3, 4, 1, 1, 20), (1, 20, 8, 5, 0))

NO_GROUPS = (
    FOUR + ONE, ONE * 5, ONE * 100, ONE[0], ((),), ((1, 4, 2, 1),), ((1, 4, 2, 1, 10, 10),), ((1, 4, 2),),
    (((1, 4, 2), 1, 10),), ([1, 4, 2, 1, 10],), (*ONE, [1, 4, 2, 1, 10]), (*ONE, None), (ONE,), list(ONE), nest(8),
    *[((thing, 4, 2, 1, 10),) for thing in no_numbers(1, 3)], *[((1, thing, 2, 1, 10),) for thing in no_numbers(0, 20)],
    *[((1, 4, thing, 1, 10),) for thing in no_numbers(1, 8)],
    *[(*ONE, (1, 4, 2, thing, 10)) for thing in no_numbers(1, 5)],
    *[((1, 4, 2, 1, thing), *ONE) for thing in no_numbers(0, 99)], *NO_TUPLES,
)


def held_due(groups, day):
    rows = []
    for kind, first, nights, many, release in groups:
        if day < release:
            rows += [(kind, first, nights)] * many
    return tuple(rows)


def first_day_due(house, stays, groups, stay):
    for day in range(100):
        if fits_due(house, (*stays, *held_due(groups, day), stay)) == ("fits",):
            return day
    return None


def some_groups(chance, last_first, most_many):
    return tuple(
        (
            chance.choice((1, 1, 2, 3)), chance.randint(0, last_first), chance.randint(1, 4),
            chance.randint(1, most_many), chance.choice((0, 1, 2, 50, 98, 99)),
        )
        for group in range(chance.randint(0, 4))
    )


class TestLeftThen(Asking):
    def due(self, house, stays, groups, day, night, kind, told):
        given = {"house": house, "stays": stays, "groups": groups, "day": day, "night": night, "kind": kind}
        with self.subTest(**given):
            self.assertEqual(self.answer(left_then, **given), told)

    def test_no_groups(self):
        for house, stays in some_cases(random.Random(90), 40, 5, 8, 6, 4):
            for night, kind in itertools.product((0, 3, 9), (1, 2, 3)):
                self.due(house, stays, (), 50, night, kind, left(house, stays, night, kind))

    def test_ahead_of_the_release_a_group_holds(self):
        for day in range(100):
            self.due((1, 1), (), ONE, day, 4, 1, 1 if day < 10 else 2)

    def test_the_ends_of_releases(self):
        self.due((1, 1), (), ((1, 4, 2, 1, 0),), 0, 4, 1, 2)
        self.due((1, 1), (), ((1, 4, 2, 1, 1),), 0, 4, 1, 1)
        self.due((1, 1), (), ((1, 4, 2, 1, 99),), 98, 4, 1, 1)
        self.due((1, 1), (), ((1, 4, 2, 1, 99),), 99, 4, 1, 2)

    def test_on_its_nights_alone(self):
        for night in range(41):
            self.due((1, 1), (), ONE, 0, night, 1, 1 if night in (4, 5) else 2)
        for night in range(41):
            self.due((3, 3, 3), (), ((3, 20, 8, 2, 9),), 8, night, 2, 1 if 20 <= night < 28 else 3)

    def test_many_are_held(self):
        for many in (1, 2, 3, 4, 5):
            self.due((1,) * 5, (), ((1, 0, 1, many, 1),), 0, 0, 1, 5 - many)
        self.due((1, 1, 2, 2, 3), (), ((1, 0, 1, 1, 1), (2, 0, 1, 1, 1), (3, 0, 1, 1, 1)), 0, 0, 1, 2)
        self.due((1, 1, 2, 2, 3), (), ((1, 0, 1, 1, 1), (2, 0, 1, 1, 1), (3, 0, 1, 1, 1)), 0, 0, 2, 1)
        self.due((1, 1, 2, 2, 3), (), ((1, 0, 1, 1, 1), (2, 0, 1, 1, 1), (3, 0, 1, 1, 1)), 0, 0, 3, 0)

    def test_four_groups_day_by_day(self):
        house = (1, 2, 2, 3, 3)
        for day, told in ((0, 1), (19, 1), (20, 2), (49, 2), (50, 4), (98, 4), (99, 5)):
            self.due(house, (), FOUR, day, 4, 1, told)
        self.due(house, (), FOUR, 0, 20, 1, 5)

    def test_stays_and_held_ones_together(self):
        self.due((1, 2), ((2, 4, 1),), ONE, 9, 4, 1, 0)
        self.due((1, 2), ((2, 4, 1),), ONE, 10, 4, 1, 1)
        self.due((1, 2), ((2, 4, 1),), ONE, 9, 5, 2, 1)

    def test_none_where_they_cannot_sleep_together(self):
        self.due((1, 2), ((2, 4, 1), (1, 4, 1)), ONE, 9, 4, 1, 0)
        self.due((3, 3, 1), ((2, 4, 1), (2, 4, 1)), ((2, 4, 1, 1, 10),), 9, 4, 1, 0)
        self.due((3, 3, 1), ((2, 4, 1), (2, 4, 1)), ((2, 4, 1, 1, 10),), 10, 4, 1, 1)
        self.due((1, 1, 1), (), ((2, 4, 1, 1, 10),), 0, 4, 1, 0)
        self.due((1, 1, 1), (), ((2, 4, 1, 1, 10),), 0, 5, 1, 3)
        self.due((1,), (), ((1, 0, 1, 5, 99),) * 4, 98, 0, 1, 0)

    def test_eight_stays_and_four_groups_of_five(self):
        groups = ((1, 20, 8, 5, 99),) * 4
        self.due((3,) * 5, ALL_MEET, groups, 0, 20, 1, 0)
        self.due((3,) * 5, ALL_MEET, groups, 0, 0, 1, 5)
        self.due((3,) * 5, ALL_MEET, groups, 99, 27, 1, 4)
        self.due((3,) * 5, ALL_MEET, groups, 98, 27, 1, 0)

    def test_others(self):
        chance = random.Random(91)
        for house, stays in some_cases(chance, 150, 5, 3, 4, 3):
            groups = some_groups(chance, 4, 2)
            day, night, kind = chance.choice((0, 1, 49, 50, 98, 99)), chance.randint(0, 5), chance.randint(1, 3)
            told = left_due(house, stays + held_due(groups, day), night, kind)
            self.due(house, stays, groups, day, night, kind, told)

    def test_refusals(self):
        wrongs = {
            "house": (NoHouse, NO_HOUSES[::2]), "stays": (NoStays, NO_STAYS[::2]), "groups": (NoGroups, NO_GROUPS),
            "day": (NoDay, no_numbers(0, 99)), "night": (NoNight, no_numbers(0, 40)),
            "kind": (NoKind, no_numbers(1, 3)),
        }
        self.check_refused(left_then, (((1, 2), ALL_MEET, FOUR, 99, 40, 3),), wrongs)


class TestFirstDay(Asking):
    def due(self, house, stays, groups, stay, told):
        with self.subTest(house=house, stays=stays, groups=groups, stay=stay):
            given = {"house": house, "stays": stays, "groups": groups, "stay": stay}
            self.assertEqual(repr(self.answer(first_day, **given)), repr(told))

    def test_no_groups(self):
        self.due((1,), (), (), (1, 0, 1), 0)
        self.due((1,), ((1, 0, 1),), (), (1, 0, 1), None)
        self.due((1,), ((1, 0, 1),), (), (1, 1, 1), 0)
        self.due((1,), (), (), (2, 0, 1), None)

    def test_the_day_of_the_release(self):
        for release in (0, 1, 2, 50, 98, 99):
            self.due((1,), (), ((1, 4, 2, 1, release),), (1, 5, 1), release)
            self.due((1,), (), ((1, 4, 2, 1, release),), (1, 6, 1), 0)

    def test_the_first_release_that_is_enough(self):
        groups = ((1, 4, 2, 1, 30), (1, 4, 2, 1, 20), (1, 4, 2, 1, 10))
        self.due((1, 1, 1, 1), (), groups, (1, 4, 1), 0)
        self.due((1, 1, 1), (), groups, (1, 4, 1), 10)
        self.due((1, 1), (), groups, (1, 4, 1), 20)
        self.due((1,), (), groups, (1, 4, 1), 30)

    def test_all_that_is_held_must_fit_that_day_wherever_it_sleeps(self):
        # The groups alone don't fit, far from the stay's nights.
        groups = ((1, 20, 1, 2, 70), (1, 20, 1, 1, 60))
        self.due((1, 1), (), groups, (1, 0, 1), 60)
        self.due((1,), (), groups, (1, 0, 1), 70)

    def test_stays_that_do_not_fit_have_no_day(self):
        self.due((1,), ((1, 0, 1), (1, 0, 1)), (), (1, 9, 1), None)
        self.due((1,), ((1, 0, 1), (1, 0, 1)), FOUR, (1, 9, 1), None)
        self.due((1, 1), ((2, 0, 1),), (), (1, 9, 1), None)

    def test_no_day_where_the_stay_never_fits(self):
        self.due((1, 1), (), FOUR, (2, 0, 1), None)
        self.due((1, 2), ((2, 4, 1),), ONE, (2, 4, 1), None)

    def test_eight_stays_and_one(self):
        stays = tuple((1, at, 1) for at in range(8))
        self.due((1,), stays, (), (1, 8, 1), 0)
        self.due((1,), stays, (), (1, 7, 1), None)
        self.due((1,), stays, ((1, 8, 1, 5, 99),), (1, 8, 1), 99)

    def test_four_groups_of_five(self):
        self.due((3,) * 5, (), ((1, 0, 8, 5, 7), (2, 0, 8, 5, 8), (3, 0, 8, 5, 9), (1, 0, 8, 5, 99)), (3, 7, 1), 99)
        self.due((3,) * 5, (), ((1, 0, 8, 5, 7), (2, 0, 8, 5, 8), (3, 0, 8, 5, 9), (1, 0, 8, 5, 99)), (3, 8, 1), 9)

    def test_others(self):
        chance = random.Random(92)
        found = set()
        for house, stays in some_cases(chance, 120, 4, 2, 4, 3):
            groups = some_groups(chance, 4, 2)
            stay = (chance.randint(1, 3), chance.randint(0, 5), chance.randint(1, 3))
            told = first_day_due(house, stays, groups, stay)
            found.add(told)
            self.due(house, stays, groups, stay, told)
        self.assertGreater(len(found), 5)

    def test_the_day_is_one_on_which_a_stay_more_is_left(self):
        chance = random.Random(93)
        for house, stays in some_cases(chance, 60, 5, 3, 4, 3):
            groups = some_groups(chance, 4, 2)
            stay = (chance.randint(1, 3), chance.randint(0, 5), chance.randint(1, 3))
            day = first_day(house, stays, groups, stay)
            if day is not None:
                self.assertEqual(fits(house, stays), ("fits",))
                for night in range(stay[1], stay[1] + stay[2]):
                    self.assertGreater(left_then(house, stays, groups, day, night, stay[0]), 0)

    def test_refusals(self):
        wrongs = {
            "house": (NoHouse, NO_HOUSES[::2]), "stays": (NoStays, NO_STAYS[::2]), "groups": (NoGroups, NO_GROUPS),
            "stay": (NoStay, NO_STAY),
        }
        self.check_refused(first_day, (((1, 2), (), (), (1, 0, 1)), ((1, 2), ALL_MEET, FOUR, (3, 20, 8))), wrongs)


if __name__ == "__main__":
    unittest.main()
