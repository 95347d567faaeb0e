"""Points 30 and 31: rooms for whole stays, what shows them, how many plans, the nearest one."""

import itertools
import random
import unittest

from nightsheld.errors import NoHouse, NoRooms, NoStays
from nightsheld.fits import fits
from nightsheld.plans import how_many, nearest, plan, shows_plan
from tests.asking import AskAnything, Asking
from tests.things import (
    ALL_MEET, FAR_NUMBERS, MOVE_HOUSE, MOVE_STAYS, NO_HOUSES, NO_STAYS, NO_TUPLES, NO_WHOLES, nest, no_numbers, put,
    some_cases,
)
from tests.trying import all_plans, meet

FIVE_MEET = ((1, 0, 8), (1, 1, 8), (1, 2, 8), (1, 3, 8), (1, 4, 8), (1, 12, 8), (1, 20, 1), (1, 20, 8))
NONE_MEET = tuple((1, 2 * at, 2) for at in range(8))


def all_lots(house, stays):
    """Each rising tuple of numbers of stays that have no plan if they are alone, the fewest first."""
    lots = [lot for size in range(len(stays) + 1) for lot in itertools.combinations(range(len(stays)), size)]
    return [lot for lot in lots if not all_plans(house, [stays[number] for number in lot])]


def plan_due(house, stays):
    found = all_plans(house, stays)
    return ("plan", found[0]) if found else ("none", all_lots(house, stays)[0])


def changed(told, rooms):
    return sum(1 for was, room in zip(told, rooms) if was is not None and was != room)


def nearest_due(house, stays, told):
    return min([(changed(told, rooms), rooms) for rooms in all_plans(house, stays)], default=None)


class TestPlan(Asking):
    def due(self, house, stays, told):
        with self.subTest(house=house, stays=stays):
            self.assertEqual(self.answer(plan, house=house, stays=stays), told)

    def test_no_stays(self):
        for house in ((1,), (3,), (1, 2, 3, 1, 2)):
            self.due(house, (), ("plan", ()))

    def test_one_room_and_one_stay(self):
        for room, kind, first, nights in itertools.product((1, 2, 3), (1, 2, 3), (0, 20), (1, 8)):
            self.due((room,), ((kind, first, nights),), ("plan", (0,)) if kind <= room else ("none", (0,)))

    def test_one_room_and_stays_one_behind_the_other(self):
        self.due((1,), NONE_MEET, ("plan", (0,) * 8))
        self.due((1,), NONE_MEET[::-1], ("plan", (0,) * 8))
        self.due((1,), ((1, 0, 3), (1, 3, 8), (1, 10, 1)), ("none", (1, 2)))

    def test_the_least_plan(self):
        self.due((1, 2, 3), ((1, 0, 1), (1, 0, 1), (1, 1, 1)), ("plan", (0, 1, 0)))
        self.due((3, 2, 1), ((1, 0, 1), (2, 0, 1), (3, 0, 1)), ("plan", (2, 1, 0)))
        self.due((3, 3, 1), ((1, 0, 2), (3, 1, 1), (3, 0, 1)), ("plan", (0, 1, 1)))
        self.due((3, 3, 1), ((1, 0, 2), (3, 1, 1), (3, 1, 1)), ("plan", (2, 0, 1)))

    def test_the_fewest_and_of_as_few_the_least(self):
        self.due((1, 1), ((1, 0, 1), (1, 0, 2), (1, 1, 1), (1, 1, 1), (3, 9, 1)), ("none", (4,)))
        self.due((1, 1), ((1, 0, 1), (1, 0, 2), (1, 1, 1), (1, 1, 1), (1, 9, 1)), ("none", (1, 2, 3)))
        self.due((1, 1), ((1, 0, 1),) * 5, ("none", (0, 1, 2)))
        self.due((1, 3), ((2, 5, 1), (3, 0, 1), (3, 5, 1), (3, 0, 1)), ("none", (0, 2)))

    def test_stays_that_fit_by_nights_and_have_no_plan(self):
        self.assertEqual(fits(MOVE_HOUSE, MOVE_STAYS), ("fits",))
        self.due(MOVE_HOUSE, MOVE_STAYS, ("none", (0, 1, 2, 3)))
        self.due((2, 1), ((1, 20, 8), *MOVE_STAYS), ("none", (1, 2, 3, 4)))

    def test_the_greatest(self):
        self.due((3,) * 5, ALL_MEET, ("none", (0, 1, 2, 3, 4, 5)))
        self.due((1,) * 5, ((1, 20, 8),) * 8, ("none", (0, 1, 2, 3, 4, 5)))
        self.due((1,) * 5, FIVE_MEET, ("plan", (0, 1, 2, 3, 4, 0, 0, 1)))
        self.due((3,) * 5, NONE_MEET, ("plan", (0,) * 8))
        self.due((1, 1, 1, 1, 3), ((1, 4, 1),) * 6 + ((3, 9, 1),) * 2, ("none", (6, 7)))

    def test_other_houses(self):
        for house, stays in some_cases(random.Random(30), 250, 4, 5, 6, 5):
            self.due(house, stays, plan_due(house, stays))

    def test_of_one_kind_alone_there_is_a_plan_just_where_the_stays_fit(self):
        found = set()
        for house, stays in some_cases(random.Random(31), 200, 5, 8, 12, 8):
            for kind in (1, 2, 3):
                alike = tuple((kind, first, nights) for one, first, nights in stays)
                told = plan((kind,) * len(house), alike)[0]
                found.add(told)
                self.assertEqual(told == "plan", fits((kind,) * len(house), alike) == ("fits",), (house, alike))
        self.assertEqual(found, {"plan", "none"})

    def test_what_it_tells_keeps_the_promise_in_greater_houses(self):
        for house, stays in some_cases(random.Random(32), 150, 5, 8, 12, 8):
            word, shown = plan(house, stays)
            if word == "plan":
                self.assertEqual(len(shown), len(stays))
                self.assertTrue(all(house[room] >= stay[0] for room, stay in zip(shown, stays)))
                for one, other in itertools.combinations(range(len(stays)), 2):
                    self.assertFalse(shown[one] == shown[other] and meet(stays[one], stays[other]))
            else:
                lot = [stays[number] for number in shown]
                self.assertEqual(all_plans(house, lot), [])
                for at in range(len(lot)):
                    self.assertEqual(plan(house, tuple(lot[:at] + lot[at + 1:]))[0], "plan")

    def test_refusals(self):
        rights = (((1,), ()), ((3,) * 5, ALL_MEET), ((1,) * 5, FIVE_MEET))
        self.check_refused(plan, rights, {"house": (NoHouse, NO_HOUSES), "stays": (NoStays, NO_STAYS)})


class TestShowsPlan(AskAnything):
    def shown(self, house, stays, thing, due):
        self.tell(shows_plan, thing, due, house=house, stays=stays)

    def test_what_is_told(self):
        for house, stays in some_cases(random.Random(33), 100, 5, 8, 10, 8):
            self.shown(house, stays, plan(house, stays), True)

    def test_each_plan_and_no_other_rooms(self):
        for house, stays in some_cases(random.Random(34), 25, 3, 4, 4, 3):
            found = all_plans(house, stays)
            for rooms in itertools.product(range(-1, len(house) + 1), repeat=len(stays)):
                self.shown(house, stays, ("plan", rooms), rooms in found)

    def test_each_lot_that_has_none_and_no_other(self):
        for house, stays in some_cases(random.Random(35), 25, 2, 4, 3, 3):
            found = all_lots(house, stays)
            for size in range(5):
                for lot in itertools.product(range(-1, len(stays) + 1), repeat=size):
                    self.shown(house, stays, ("none", lot), lot in found)

    def test_a_lot_need_not_be_the_fewest(self):
        stays = ((1, 9, 1), (1, 0, 1), (1, 0, 1))
        for lot in ((1, 2), (0, 1, 2)):
            self.shown((3,), stays, ("none", lot), True)
        for lot in (
            (), (0,), (1,), (0, 1), (0, 2), (2, 1), (1, 1), (1, 1, 2), (1, 2, 2), (1, 2, 0), (1, 2, 3), (-1, 1, 2),
        ):
            self.shown((3,), stays, ("none", lot), False)

    def test_the_same_with_one_part_otherwise(self):
        told = plan((1, 2, 3), ((1, 0, 2), (2, 1, 2), (1, 1, 1)))
        self.assertEqual(told, ("plan", (0, 1, 2)))
        for at in range(3):
            for thing in no_numbers(0, 2):
                self.shown((1, 2, 3), ((1, 0, 2), (2, 1, 2), (1, 1, 1)), ("plan", put(told[1], at, thing)), False)
        told = plan(MOVE_HOUSE, MOVE_STAYS)
        for at in range(4):
            for thing in no_numbers(0, 3):
                self.shown(MOVE_HOUSE, MOVE_STAYS, ("none", put(told[1], at, thing)), False)

    def test_truths_are_no_numbers(self):
        stays = ((1, 0, 1), (1, 0, 1))
        self.shown((1, 1), stays, ("plan", (0, 1)), True)
        self.shown((1, 1), stays, ("plan", (False, 1)), False)
        self.shown((1, 1), stays, ("plan", (0, True)), False)
        self.shown((1,), stays, ("none", (0, 1)), True)
        self.shown((1,), stays, ("none", (False, 1)), False)
        self.shown((1,), stays, ("none", (0, True)), False)

    def test_parts_left_out_twice_or_put_in(self):
        house, stays = (1, 2), ((1, 0, 1), (2, 0, 1))
        for thing in (
            ("plan",), ((0, 1),), ("plan", (0, 1), (0, 1)), ("plan", "plan", (0, 1)), ("plan", (0,)), ("plan", ()),
            ("plan", (0, 1, 0)), ("plan", 0, 1), ("plan", ((0, 1),)), ("plan", ((0,), (1,))), (("plan", (0, 1)),),
        ):
            self.shown(house, stays, thing, False)
        self.shown(house, stays, ("plan", (0, 1)), True)

    def test_other_words(self):
        for word in ("plan", "none", "", "Plan", "plan ", "plans", "fits", None, True, 0, 1, ("plan",), ["plan"], {}):
            self.shown((1,), ((1, 0, 1),), (word, (0,)), word == "plan")
            self.shown((1,), ((2, 0, 1),), (word, (0,)), word == "none")

    def test_lists_in_the_place_of_tuples(self):
        for house, stays, thing in (((1,), ((1, 0, 1),), ("plan", (0,))), ((1,), ((2, 0, 1),), ("none", (0,)))):
            self.shown(house, stays, thing, True)
            self.shown(house, stays, list(thing), False)
            self.shown(house, stays, (thing[0], [0]), False)
            self.shown(house, stays, (thing[0], {0: 0}), False)
            self.shown(house, stays, dict([thing]), False)

    def test_of_no_stays(self):
        self.shown((1,), (), ("plan", ()), True)
        self.shown((1,), (), ("none", ()), False)
        for thing in (0, None, False, -1):
            self.shown((1,), (), ("plan", (thing,)), False)
            self.shown((1,), (), ("none", (thing,)), False)

    def test_of_anything(self):
        for house, stays in (((1,), ()), ((1, 2), ((1, 0, 1), (2, 0, 1))), ((3,) * 5, ALL_MEET)):
            for thing in (*NO_TUPLES, *NO_WHOLES, *FAR_NUMBERS, nest(8), (0,) * 2999):
                self.shown(house, stays, thing, False)
                if thing != ():
                    self.shown(house, stays, ("plan", thing), False)
                self.shown(house, stays, ("none", thing), False)

    def test_refusals(self):
        good = {"house": (1,), "stays": (), "thing": ("plan", ())}
        for thing in (("plan", ()), None, [], "plan"):
            wrongs = {"house": (NoHouse, NO_HOUSES), "stays": (NoStays, NO_STAYS)}
            for name in wrongs:
                due, things = wrongs[name]
                for wrong in things:
                    self.assertIs(self.refusal(shows_plan, **{**good, "thing": thing, name: wrong}), due)
            for house, stays in zip(NO_HOUSES, NO_STAYS):
                self.assertIs(self.refusal(shows_plan, house=house, stays=stays, thing=thing), NoHouse)


class TestHowMany(Asking):
    def due(self, house, stays, told):
        with self.subTest(house=house, stays=stays):
            self.assertEqual(self.answer(how_many, house=house, stays=stays), told)

    def test_no_stays_have_one_plan(self):
        self.due((1,), (), 1)
        self.due((3,) * 5, (), 1)

    def test_a_few(self):
        self.due((1, 2, 3), ((1, 0, 1),), 3)
        self.due((1, 2, 3), ((2, 0, 1),), 2)
        self.due((1, 2, 3), ((3, 20, 8),), 1)
        self.due((1, 2), ((3, 0, 1),), 0)
        self.due((1, 2, 3), ((1, 0, 1), (1, 0, 1)), 6)
        self.due((1, 2, 3), ((1, 0, 1), (1, 1, 1)), 9)
        self.due((1, 2, 3), ((1, 0, 1), (3, 0, 1)), 2)

    def test_none(self):
        self.due(MOVE_HOUSE, MOVE_STAYS, 0)
        self.due((3,) * 5, ALL_MEET, 0)

    def test_the_greatest(self):
        self.due((3,) * 5, NONE_MEET, 5**8)
        self.due((1,) * 5, NONE_MEET[::-1], 5**8)
        self.due((1,) * 5, ((1, 0, 1),) * 5 + ((1, 1, 1),) * 3, 120 * 60)
        self.due((1,) * 5, ((1, 0, 8),) * 5 + ((1, 8, 1), (1, 9, 1), (1, 9, 1)), 120 * 5 * 20)

    def test_other_houses(self):
        for house, stays in some_cases(random.Random(36), 250, 4, 5, 8, 6):
            self.due(house, stays, len(all_plans(house, stays)))

    def test_refusals(self):
        rights = (((1,), ()), ((3,) * 5, ALL_MEET))
        self.check_refused(how_many, rights, {"house": (NoHouse, NO_HOUSES), "stays": (NoStays, NO_STAYS)})


class TestNearest(Asking):
    def due(self, house, stays, told, answer):
        with self.subTest(house=house, stays=stays, told=told):
            self.assertEqual(self.answer(nearest, house=house, stays=stays, told=told), answer)

    def test_no_stays(self):
        self.due((1,), (), (), (0, ()))

    def test_nothing_told_is_the_least_plan(self):
        for house, stays in some_cases(random.Random(37), 60, 5, 8, 14, 8):
            word, rooms = plan(house, stays)
            self.due(house, stays, (None,) * len(stays), (0, rooms) if word == "plan" else None)

    def test_a_plan_told_is_kept(self):
        self.due((1, 2, 3), ((1, 0, 1), (1, 1, 1)), (2, 1), (0, (2, 1)))
        self.due((1, 2, 3), ((1, 0, 1), (1, 1, 1)), (2, None), (0, (2, 0)))
        self.due((1, 2, 3), ((1, 0, 1), (1, 0, 1)), (None, 0), (0, (1, 0)))

    def test_a_room_in_which_it_may_not_sleep(self):
        self.due((1, 2, 3), ((2, 0, 1),), (0,), (1, (1,)))
        self.due((1, 2, 3), ((3, 0, 1), (1, 0, 1)), (0, 2), (2, (2, 0)))

    def test_the_fewest_and_of_such_the_least(self):
        self.due((1, 1), ((1, 0, 1), (1, 0, 1)), (0, 0), (1, (0, 1)))
        self.due((1, 1), ((1, 0, 1), (1, 0, 1)), (1, 1), (1, (0, 1)))
        self.due((1, 1, 1), ((1, 0, 1), (1, 0, 1), (1, 0, 1)), (2, 2, None), (1, (0, 2, 1)))
        self.due((1, 2), ((1, 0, 1), (2, 0, 1)), (1, 0), (2, (0, 1)))

    def test_no_plan(self):
        self.due(MOVE_HOUSE, MOVE_STAYS, (0, 1, 0, 1), None)
        self.due((3,) * 5, ALL_MEET, (0, 1, 2, 3, 4, None, None, None), None)
        self.due((1,), ((2, 0, 1),), (0,), None)

    def test_the_greatest(self):
        self.due((1,) * 5, FIVE_MEET, (4,) * 8, (5, (0, 1, 2, 3, 4, 4, 0, 4)))
        self.due((1,) * 5, NONE_MEET, (4,) * 8, (0, (4,) * 8))
        self.due((1,) * 5, FIVE_MEET, (4, 3, 2, 1, 0, 4, 3, 2), (0, (4, 3, 2, 1, 0, 4, 3, 2)))

    def test_other_houses(self):
        chance = random.Random(38)
        for house, stays in some_cases(chance, 250, 4, 5, 6, 5):
            told = tuple(chance.choice((None, *range(len(house)))) for stay in stays)
            self.due(house, stays, told, nearest_due(house, stays, told))

    def test_refusals(self):
        no_rooms = [thing for thing in no_numbers(0, 1) if thing is not None]
        wrong = (
            (), (0,), (0, 0, 0), (None,), (None,) * 3, ((0, 0),), nest(8), *NO_TUPLES,
            *[(0, thing) for thing in no_rooms], *[(thing, None) for thing in no_rooms],
        )
        wrongs = {"house": (NoHouse, NO_HOUSES), "stays": (NoStays, NO_STAYS), "told": (NoRooms, wrong)}
        stays = ((1, 0, 1), (2, 20, 8))
        self.check_refused(nearest, [((1, 2), stays, told) for told in ((0, 1), (None, None), (1, 0))], wrongs)

    def test_rooms_beyond_the_house_and_rooms_for_no_stay(self):
        self.assertIs(self.refusal(nearest, house=(1,), stays=((1, 0, 1),), told=(1,)), NoRooms)
        self.assertIs(self.refusal(nearest, house=(1,) * 5, stays=((1, 0, 1),), told=(5,)), NoRooms)
        self.assertIs(self.refusal(nearest, house=(1,) * 5, stays=(), told=(None,)), NoRooms)
        self.assertIs(self.refusal(nearest, house=(1,) * 5, stays=ALL_MEET, told=(0,) * 9), NoRooms)
        self.due((1,) * 5, ((1, 0, 1),), (4,), (0, (4,)))


if __name__ == "__main__":
    unittest.main()
