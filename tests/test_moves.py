"""Point 40: plans by nights, their moves, the fewest moves."""

import itertools
import random
import unittest

from nightsheld.errors import NoHouse, NoPlan, NoStays
from nightsheld.fits import fits
from nightsheld.moves import is_nightly, least_moves, moves_of
from nightsheld.plans import plan
from tests.asking import AskAnything, Asking
from tests.things import (
    ALL_MEET, FAR_NUMBERS, MOVE_HOUSE, MOVE_STAYS, NO_HOUSES, NO_STAYS, NO_TUPLES, NO_WHOLES, nest, no_numbers, put,
    some_cases,
)

TWO_MOVES = MOVE_STAYS + tuple((kind, first + 3, nights) for kind, first, nights in MOVE_STAYS)
MOVE_PLAN = ((0, 0), (1,), (1, 0), (1,))


def keeps_by_nights(house, stays, rooms):
    """Whether rows of room numbers, one for each night, keep what point 40 asks: night by night."""
    for night in range(28):
        slept = [
            (row[night - stay[1]], stay[0]) for stay, row in zip(stays, rooms) if stay[1] <= night < stay[1] + stay[2]
        ]
        if len({room for room, kind in slept}) < len(slept):
            return False
        if any(house[room] < kind for room, kind in slept):
            return False
    return True


def count_moves(rooms):
    return sum(1 for row in rooms for at in range(1, len(row)) if row[at] != row[at - 1])


def fewest_by_trying(house, stays):
    """The fewest moves: by trying all rooms for all nights."""
    rows = [list(itertools.product(range(len(house)), repeat=nights)) for kind, first, nights in stays]
    found = [count_moves(rooms) for rooms in itertools.product(*rows) if keeps_by_nights(house, stays, rooms)]
    return min(found, default=None)


def fewest_by_nights(house, stays):
    """The fewest moves: from each night's rooms to each of the next night's."""
    reached = {(): 0}
    for night in range(28):
        numbers = [at for at, (kind, first, nights) in enumerate(stays) if first <= night < first + nights]
        grown = {}
        for rooms in itertools.permutations(range(len(house)), len(numbers)):
            if all(house[room] >= stays[number][0] for room, number in zip(rooms, numbers)):
                now = dict(zip(numbers, rooms))
                costs = [
                    cost + sum(1 for number, room in was if now.get(number, room) != room)
                    for was, cost in reached.items()
                ]
                grown[tuple(now.items())] = min(costs)
        reached = grown
        if not reached:
            return None
    return min(reached.values())


class TestLeastMoves(Asking):
    def due(self, house, stays, moves):
        """The fewest moves are told, and a plan that has them; None is told where moves is None."""
        with self.subTest(house=house, stays=stays):
            told = self.answer(least_moves, house=house, stays=stays)
            if moves is None:
                self.assertIsNone(told)
                return
            self.assertIs(type(told), tuple)
            self.assertEqual(len(told), 2)
            self.assertEqual(told[0], moves)
            self.assertEqual([len(row) for row in told[1]], [nights for kind, first, nights in stays])
            self.assertTrue(keeps_by_nights(house, stays, told[1]))
            self.assertEqual(count_moves(told[1]), moves)
            self.assertIs(is_nightly(house, stays, told[1]), True)
            self.assertEqual(moves_of(house, stays, told[1]), moves)

    def test_no_stays(self):
        for house in ((1,), (3,) * 5):
            self.assertEqual(self.answer(least_moves, house=house, stays=()), (0, ()))

    def test_one_room_and_one_stay(self):
        for room, kind, first, nights in itertools.product((1, 2, 3), (1, 2, 3), (0, 20), (1, 8)):
            due = (0, ((0,) * nights,)) if kind <= room else None
            self.assertEqual(self.answer(least_moves, house=(room,), stays=((kind, first, nights),)), due)

    def test_one_room_and_more_stays(self):
        self.due((2,), ((1, 0, 3), (2, 3, 1)), 0)
        self.due((2,), ((1, 0, 3), (2, 2, 1)), None)
        self.due((2,), tuple((1, 2 * at, 2) for at in range(8)), 0)

    def test_a_move_is_needed(self):
        self.due(MOVE_HOUSE, MOVE_STAYS, 1)
        self.due(MOVE_HOUSE[::-1], MOVE_STAYS, 1)
        self.due(MOVE_HOUSE, MOVE_STAYS[::-1], 1)

    def test_two_moves_are_needed(self):
        self.due(MOVE_HOUSE, TWO_MOVES, 2)
        self.due(MOVE_HOUSE, tuple((kind, first + 15, nights) for kind, first, nights in TWO_MOVES), 2)

    def test_no_move_without_one_of_the_stays(self):
        for at in range(4):
            self.due(MOVE_HOUSE, MOVE_STAYS[:at] + MOVE_STAYS[at + 1:], 0)

    def test_stays_that_do_not_fit(self):
        self.due((1, 2), ((2, 3, 1), (2, 3, 1)), None)
        self.due((1, 2), ((3, 20, 8),), None)
        self.due((1, 2), ((1, 20, 8), (1, 0, 1), (1, 0, 1), (1, 0, 1)), None)

    def test_the_greatest(self):
        self.due((3,) * 5, ALL_MEET, None)
        self.due((3,) * 5, ((3, 20, 8),) * 8, None)
        self.due((1,) * 5, ((1, 0, 8), (1, 1, 8), (1, 2, 8), (1, 3, 8), (1, 4, 8), (1, 8, 8), (1, 9, 8), (1, 10, 8)), 0)
        self.due((3, 3, 3, 1, 2), ((3, 1, 8),) * 4 + MOVE_STAYS, None)
        self.due((3, 3, 3, 1, 2), ((3, 0, 8),) * 3 + MOVE_STAYS, 1)

    def test_by_trying_all(self):
        for house, stays in some_cases(random.Random(40), 250, 3, 4, 3, 2):
            self.due(house, stays, fewest_by_trying(house, stays))

    def test_stays_that_need_moves(self):
        chance = random.Random(41)
        many = {}
        for step in range(600):
            house = chance.choice((MOVE_HOUSE, (2, 1, 1), (1, 3, 2), (3, 1, 3, 2)))
            stays = [(1, chance.randint(0, 5), chance.randint(1, 4)) for stay in range(len(house) - 2)]
            for kind, first, nights in chance.choice((MOVE_STAYS, TWO_MOVES[:6])):
                wider = chance.randint(0, 1)
                stays.append((chance.choice((kind, kind, kind, 3)), 2 * first + wider, 2 * nights - wider))
            stays = tuple(chance.sample(stays, len(stays)))
            due = fewest_by_nights(house, stays)
            many[due] = many.get(due, 0) + 1
            self.due(house, stays, due)
        self.assertGreater(many[0], 30)
        self.assertGreater(many[1], 30)
        self.assertGreater(many[None], 30)

    def test_other_houses(self):
        for house, stays in some_cases(random.Random(42), 120, 4, 8, 14, 8):
            self.due(house, stays, fewest_by_nights(house, stays))

    def test_there_is_one_just_where_the_stays_fit_and_without_moves_just_where_there_is_a_plan(self):
        found = set()
        more = [(MOVE_HOUSE, MOVE_STAYS), (MOVE_HOUSE, TWO_MOVES), ((3,) * 5, ALL_MEET)]
        for house, stays in more + some_cases(random.Random(43), 200, 5, 8, 20, 8):
            told = least_moves(house, stays)
            self.assertEqual(told is not None, fits(house, stays) == ("fits",), (house, stays))
            self.assertEqual(told is not None and told[0] == 0, plan(house, stays)[0] == "plan", (house, stays))
            found.add(None if told is None else told[0])
        self.assertEqual(found, {None, 0, 1, 2})

    def test_refusals(self):
        rights = (((1,), ()), ((3,) * 5, ALL_MEET), (MOVE_HOUSE, MOVE_STAYS))
        self.check_refused(least_moves, rights, {"house": (NoHouse, NO_HOUSES), "stays": (NoStays, NO_STAYS)})


class TestIsNightly(AskAnything):
    def shown(self, house, stays, thing, due):
        self.tell(is_nightly, thing, due, house=house, stays=stays)

    def test_all_rooms_for_all_nights(self):
        for house, stays in some_cases(random.Random(44), 30, 3, 3, 3, 2):
            rows = [itertools.product(range(len(house)), repeat=nights) for kind, first, nights in stays]
            for rooms in itertools.product(*rows):
                self.shown(house, stays, rooms, keeps_by_nights(house, stays, rooms))

    def test_of_a_plan_without_moves(self):
        for house, stays in some_cases(random.Random(45), 80, 5, 8, 16, 8):
            word, rooms = plan(house, stays)
            if word == "plan":
                self.shown(house, stays, tuple((room,) * stay[2] for room, stay in zip(rooms, stays)), True)
                self.shown(house, stays, rooms, not stays)

    def test_needless_moves_are_no_hindrance(self):
        self.shown((1, 1), ((1, 0, 4),), ((0, 1, 0, 1),), True)
        self.shown((1, 1), ((1, 0, 4), (1, 0, 4)), ((0, 1, 0, 1), (1, 0, 1, 0)), True)
        self.shown((1, 1), ((1, 0, 4), (1, 0, 4)), ((0, 1, 0, 1), (1, 0, 1, 1)), False)

    def test_a_room_below_the_kind(self):
        self.shown((1, 2), ((2, 0, 2),), ((1, 1),), True)
        self.shown((1, 2), ((2, 0, 2),), ((1, 0),), False)

    def test_the_same_with_one_part_otherwise(self):
        self.shown(MOVE_HOUSE, MOVE_STAYS, MOVE_PLAN, True)
        for number, row in enumerate(MOVE_PLAN):
            for at in range(len(row)):
                for room in (0, 1, *no_numbers(0, 1)):
                    other = put(MOVE_PLAN, number, put(row, at, room))
                    due = repr(room) in ("0", "1") and keeps_by_nights(MOVE_HOUSE, MOVE_STAYS, other)
                    self.shown(MOVE_HOUSE, MOVE_STAYS, other, due)

    def test_parts_left_out_twice_or_put_in(self):
        for number, row in enumerate(MOVE_PLAN):
            rest = MOVE_PLAN[:number] + MOVE_PLAN[number + 1:]
            for thing in (
                rest, MOVE_PLAN[:number + 1] + MOVE_PLAN[number:], put(MOVE_PLAN, number, row[1:]),
                put(MOVE_PLAN, number, row + (0,)), put(MOVE_PLAN, number, row + row), put(MOVE_PLAN, number, ()),
                put(MOVE_PLAN, number, list(row)), put(MOVE_PLAN, number, row[0]), put(MOVE_PLAN, number, (row,)),
                put(MOVE_PLAN, number, None), put(MOVE_PLAN, number, "0" * len(row)), (*MOVE_PLAN, ()),
                (*MOVE_PLAN, None), (*MOVE_PLAN, (0,)),
            ):
                self.shown(MOVE_HOUSE, MOVE_STAYS, thing, False)

    def test_the_whole_answer_is_no_plan(self):
        told = least_moves(MOVE_HOUSE, MOVE_STAYS)
        self.shown(MOVE_HOUSE, MOVE_STAYS, told, False)
        self.shown(MOVE_HOUSE, MOVE_STAYS, told[1], True)
        self.shown(MOVE_HOUSE, MOVE_STAYS, list(told[1]), False)

    def test_of_no_stays(self):
        self.shown((1,), (), (), True)
        for thing in ([], {}, "", None, 0, False, ((),), (0,), ((0,),)):
            self.shown((1,), (), thing, False)

    def test_of_anything(self):
        for house, stays in (((1,), ((1, 0, 1),)), (MOVE_HOUSE, MOVE_STAYS), ((3,) * 5, ALL_MEET)):
            for thing in (*NO_TUPLES, *NO_WHOLES, *FAR_NUMBERS, nest(8), (0,) * 2999, ((0,),) * 1000):
                self.shown(house, stays, thing, False)
                self.shown(house, stays, (thing,) * len(stays), thing == (0,))

    def test_refusals(self):
        wrongs = {"house": (NoHouse, NO_HOUSES), "stays": (NoStays, NO_STAYS)}
        for thing in ((), None, [], MOVE_PLAN):
            for name in wrongs:
                due, things = wrongs[name]
                for wrong in things:
                    given = {"house": (1,), "stays": (), "thing": thing, name: wrong}
                    self.assertIs(self.refusal(is_nightly, **given), due)
            for house, stays in zip(NO_HOUSES, NO_STAYS):
                self.assertIs(self.refusal(is_nightly, house=house, stays=stays, thing=thing), NoHouse)


class TestMovesOf(Asking):
    def due(self, house, stays, rooms, moves):
        with self.subTest(house=house, stays=stays, rooms=rooms):
            self.assertEqual(self.answer(moves_of, house=house, stays=stays, rooms=rooms), moves)

    def test_no_stays(self):
        self.due((1,), (), (), 0)

    def test_the_first_night_is_no_move(self):
        for room in range(5):
            self.due((1,) * 5, ((1, 20, 1),), ((room,),), 0)
            self.due((1,) * 5, ((1, 0, 8),), ((room,) * 8,), 0)

    def test_each_night_with_another_room_counts(self):
        self.due((1, 1), ((1, 0, 2),), ((0, 1),), 1)
        self.due((1, 1, 1), ((1, 0, 4),), ((0, 1, 1, 0),), 2)
        self.due((1, 1, 1), ((1, 20, 8),), ((0, 1, 2, 0, 1, 2, 0, 1),), 7)

    def test_of_all_stays_together(self):
        self.due(MOVE_HOUSE, MOVE_STAYS, MOVE_PLAN, 1)
        self.due((1, 1), ((1, 0, 3), (1, 0, 3), (1, 3, 1)), ((0, 1, 0), (1, 0, 1), (1,)), 4)
        rows = tuple(tuple((at + night) % 5 for night in range(8)) for at in range(5))
        self.due((3,) * 5, ((3, 20, 8),) * 5, rows, 35)

    def test_all_rooms_for_all_nights(self):
        for house, stays in some_cases(random.Random(46), 30, 3, 3, 3, 2):
            rows = [itertools.product(range(len(house)), repeat=nights) for kind, first, nights in stays]
            for rooms in itertools.product(*rows):
                if keeps_by_nights(house, stays, rooms):
                    self.due(house, stays, rooms, count_moves(rooms))
                else:
                    self.assertIs(self.refusal(moves_of, house=house, stays=stays, rooms=rooms), NoPlan)

    def test_refusals(self):
        wrong = (
            ((0, 0), (1,), (1, 0), (0,)), ((0, 0), (1,), (0, 0), (1,)), ((0, 0), (1,), (1, 0)), (*MOVE_PLAN, ()), (),
            ((0, 0), (1,), (1,), (1,)), ((0, 0), (1,), [1, 0], (1,)), ((0, 0), (1,), (1, 0), (True,)), nest(8),
            ((0, 0), (1,), (1, 0), (2,)), ((0, 0), (1,), (1, -1), (1,)), ((0, 0), (1,), (1, None), (1,)),
            (0, 1, 0, 1), (1, MOVE_PLAN), list(MOVE_PLAN), *NO_TUPLES,
        )
        wrongs = {"house": (NoHouse, NO_HOUSES), "stays": (NoStays, NO_STAYS), "rooms": (NoPlan, wrong)}
        self.check_refused(moves_of, ((MOVE_HOUSE, MOVE_STAYS, MOVE_PLAN),), wrongs)

    def test_where_the_stays_do_not_fit_there_is_none(self):
        self.assertIs(self.refusal(moves_of, house=(1,), stays=((1, 0, 1),) * 2, rooms=((0,), (0,))), NoPlan)
        self.assertIs(self.refusal(moves_of, house=(1,), stays=((2, 0, 1),), rooms=((0,),)), NoPlan)


if __name__ == "__main__":
    unittest.main()
