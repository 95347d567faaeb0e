"""Points 10 and 11, and points 3 and 4 of them: houses, stays, and who sleeps on a night."""

import itertools
import unittest

from nightsheld.errors import NoNight, NoStays
from nightsheld.houses import are_stays, is_house, is_stay, sleeping
from tests.asking import AskAnything, Asking
from tests.things import FAR_NUMBERS, Kept, NO_STAYS, NO_TUPLES, NO_WHOLES, nest, no_numbers, put

EIGHT = ((1, 0, 1), (3, 20, 8), (2, 5, 3), (2, 5, 3), (1, 4, 1), (3, 0, 8), (1, 8, 2), (2, 20, 1))


class TestIsHouse(AskAnything):
    def test_each_house_of_one_to_five_rooms(self):
        for rooms in range(1, 6):
            for house in itertools.product((1, 2, 3), repeat=rooms):
                self.tell(is_house, house, True)

    def test_no_room_and_too_many(self):
        self.tell(is_house, (), False)
        for rooms in (6, 7, 100, 2999):
            for kind in (1, 2, 3):
                self.tell(is_house, (kind,) * rooms, False)

    def test_kinds_beyond_the_bounds(self):
        for rooms in range(1, 6):
            for at in range(rooms):
                for kind in (0, 4, 5, -1, -2, -3, *FAR_NUMBERS):
                    self.tell(is_house, put((2,) * rooms, at, kind), False)

    def test_kinds_that_are_no_numbers(self):
        for rooms in range(1, 6):
            for at in range(rooms):
                for thing in NO_WHOLES:
                    self.tell(is_house, put((1,) * rooms, at, thing), False)

    def test_what_is_no_tuple(self):
        for thing in NO_TUPLES:
            self.tell(is_house, thing, False)

    def test_houses_within_something(self):
        for thing in (((1, 2),), ([1, 2],), ((1,), (2,)), nest(8)):
            self.tell(is_house, thing, False)


class TestIsStay(AskAnything):
    def test_all_within_the_bounds_and_just_beyond(self):
        for kind in range(-1, 6):
            for first in range(-2, 24):
                for nights in range(-1, 11):
                    due = kind in (1, 2, 3) and first in range(21) and nights in range(1, 9)
                    self.tell(is_stay, (kind, first, nights), due)

    def test_numbers_of_many_figures(self):
        for stay in ((1, 0, 1), (3, 20, 8)):
            for at in range(3):
                for number in FAR_NUMBERS:
                    self.tell(is_stay, put(stay, at, number), False)

    def test_what_is_no_number_at_each_place(self):
        for stay in ((1, 0, 1), (1, 1, 1), (3, 20, 8)):
            for at in range(3):
                for thing in NO_WHOLES:
                    self.tell(is_stay, put(stay, at, thing), False)

    def test_too_short_and_too_long(self):
        for thing in ((), (1,), (1, 1), (1, 1, 1, 1), (1, 0, 1, None), (1,) * 6, (1,) * 2999):
            self.tell(is_stay, thing, False)

    def test_what_is_no_tuple(self):
        for thing in NO_TUPLES:
            self.tell(is_stay, thing, False)

    def test_stays_within_something(self):
        for thing in (((1, 0, 1),), ((1, 0, 1), (1, 0, 1), (1, 0, 1)), nest(8)):
            self.tell(is_stay, thing, False)


class TestAreStays(AskAnything):
    def test_none_to_eight(self):
        for many in range(9):
            self.tell(are_stays, EIGHT[:many], True)
            self.tell(are_stays, ((3, 20, 8),) * many, True)

    def test_nine_and_more(self):
        for many in (9, 10, 100, 700):
            self.tell(are_stays, ((1, 0, 1),) * many, False)

    def test_each_stay_counts(self):
        wrong = ((0, 0, 1), (4, 0, 1), (1, -1, 1), (1, 21, 1), (1, 0, 0), (1, 0, 9), (True, 0, 1), (1, False, 1))
        for many in range(1, 9):
            for at in range(many):
                for stay in wrong:
                    self.tell(are_stays, put(EIGHT[:many], at, stay), False)

    def test_what_is_no_tuple_in_the_place_of_a_stay(self):
        for many in (1, 3, 8):
            for at in range(many):
                for thing in NO_TUPLES:
                    self.tell(are_stays, put(EIGHT[:many], at, thing), False)

    def test_what_is_no_number_within_a_stay(self):
        for at in range(3):
            for thing in NO_WHOLES:
                self.tell(are_stays, ((1, 0, 1), put((1, 1, 1), at, thing)), False)

    def test_stays_too_short_and_too_long(self):
        for stay in ((), (1,), (1, 0), (1, 0, 1, 1), ((1, 0, 1),)):
            self.tell(are_stays, (stay,), False)
            self.tell(are_stays, ((1, 0, 1), stay), False)

    def test_what_is_no_tuple(self):
        for thing in NO_TUPLES:
            self.tell(are_stays, thing, False)

    def test_a_stay_by_itself_is_no_stays(self):
        for thing in ((1, 0, 1), (1,), (1, 2, 3, 1, 2), nest(8)):
            self.tell(are_stays, thing, False)


class TestSleeping(Asking):
    def test_each_night_of_none_to_eight_stays(self):
        for many in range(9):
            stays = EIGHT[:many]
            for night in range(41):
                due = [at for at in range(many) if night in range(stays[at][1], stays[at][1] + stays[at][2])]
                with self.subTest(many=many, night=night):
                    self.assertEqual(sleeping(stays, night), tuple(due))

    def test_each_stay_by_its_first_and_last_night(self):
        for kind in (1, 2, 3):
            for first in range(21):
                for nights in range(1, 9):
                    told = [night for night in range(41) if sleeping(((kind, first, nights),), night) == (0,)]
                    self.assertEqual(told, list(range(first, first + nights)))

    def test_an_ordinary_house(self):
        stays = ((1, 3, 2), (2, 4, 1), (1, 3, 2), (3, 5, 4))
        self.assertEqual(sleeping(stays, 2), ())
        self.assertEqual(sleeping(stays, 3), (0, 2))
        self.assertEqual(sleeping(stays, 4), (0, 1, 2))
        self.assertEqual(sleeping(stays, 5), (3,))
        self.assertEqual(sleeping(stays, 8), (3,))
        self.assertEqual(sleeping(stays, 9), ())

    def test_all_eight_at_once(self):
        self.assertEqual(sleeping(((2, 20, 8),) * 8, 27), (0, 1, 2, 3, 4, 5, 6, 7))
        self.assertEqual(sleeping(((2, 20, 8),) * 8, 28), ())

    def test_the_first_and_the_last_night_there_are(self):
        self.assertEqual(sleeping((), 0), ())
        self.assertEqual(sleeping((), 40), ())
        self.assertEqual(sleeping(EIGHT, 0), (0, 5))
        self.assertEqual(sleeping(EIGHT, 40), ())

    def test_it_tells_a_tuple_of_whole_numbers(self):
        for night in (0, 6, 40):
            told = sleeping(EIGHT, night)
            self.assertIs(type(told), tuple)
            self.assertEqual([type(number) for number in told], [int] * len(told))

    def test_by_name_in_whatever_order(self):
        self.assertEqual(self.answer(sleeping, stays=EIGHT, night=6), (2, 3, 5))

    def test_asked_again_it_is_the_same_and_nothing_is_changed(self):
        kept = Kept(EIGHT)
        told = [sleeping(EIGHT, night) for night in range(41)]
        again = [sleeping(EIGHT, night) for night in range(40, -1, -1)]
        self.assertEqual(told, again[::-1])
        self.assertTrue(kept.holds())

    def test_refusals(self):
        rights = (((), 0), (((1, 0, 1),), 7), (EIGHT, 40))
        wrongs = {"stays": (NoStays, (EIGHT + ((1, 0, 1),), *NO_STAYS)), "night": (NoNight, no_numbers(0, 40))}
        self.check_refused(sleeping, rights, wrongs)

    def test_a_refusal_leaves_no_trace(self):
        told = sleeping(EIGHT, 6)
        self.refusal(sleeping, stays=EIGHT, night=41)
        self.refusal(sleeping, stays=None, night=6)
        self.assertEqual(sleeping(EIGHT, 6), told)


if __name__ == "__main__":
    unittest.main()
