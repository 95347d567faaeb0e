"""Points 110 and 111: an inn, its deeds, what it tells, its twin."""

import copy
import itertools
import random
import unittest

from nightsheld.errors import NoDeed, NoHouse, NoKind, NoNight, NoNumber, NoRooms, NoStay, NotNow
from nightsheld.fits import left
from nightsheld.inn import Inn
from nightsheld.plans import plan
from tests.asking import Asking, ways_to_ask
from tests.things import MOVE_HOUSE, MOVE_STAYS, NO_HOUSES, NO_STAY, NO_TUPLES, Kept, no_numbers
from tests.trying import all_plans, fits_due, left_due

STEPS = tuple((1, 2 * at, 2) for at in range(8))


def told_of(inn):
    """All that an inn tells of itself, but left."""
    return inn.stays(), inn.rooms(), inn.plan(), len(inn), repr(inn)


def inn_with(house, *stays):
    inn = Inn(house)
    for stay in stays:
        inn.book(stay)
    return inn


def ways_to_do(inn, name, given):
    """Calls of a deed, each on a twin of its own: by place, by name, in another order."""
    many = len(ways_to_ask(None, given)) if given else 1
    twins = [inn.twin() for way in range(many)]
    if not given:
        return [(twin, getattr(twin, name)) for twin in twins]
    return [(twin, ways_to_ask(getattr(twin, name), given)[at]) for at, twin in enumerate(twins)]


class InnAsking(Asking):
    def do(self, inn, name, told, **given):
        """The deed tells this, however it is asked for, and goes on alike; then it is done."""
        kept = Kept(given)
        twins = []
        for twin, way in ways_to_do(inn, name, given):
            self.assertEqual(repr(way()), repr(told), (name, given))
            twins.append(twin)
        self.assertEqual(repr(getattr(inn, name)(**given)), repr(told), (name, given))
        for twin in twins:
            self.assertTrue(twin == inn)
            self.assertEqual(told_of(twin), told_of(inn))
        self.assertTrue(kept.holds())

    def refuse(self, inn, name, due, **given):
        """The deed is refused by just this class, however it is asked for, and changes nothing."""
        kept = Kept(given)
        before, shown = inn.twin(), told_of(inn)
        for twin, way in [*ways_to_do(inn, name, given), (inn, lambda: getattr(inn, name)(**given))]:
            with self.subTest(name=name, given=repr(given)[:200]):
                with self.assertRaises(ValueError) as caught:
                    way()
                self.assertIs(type(caught.exception), due)
                self.assertTrue(twin == before and inn == before)
                self.assertEqual(told_of(twin), shown)
        self.assertTrue(kept.holds())

    def shows(self, inn, stays, rooms, rows, deeds):
        for again in range(2):
            self.assertEqual(repr(inn.stays()), repr(stays))
            self.assertEqual(repr(inn.rooms()), repr(rooms))
            self.assertEqual(repr(inn.plan()), repr(rows))
            self.assertEqual(len(inn), deeds)
            self.assertEqual(repr(inn), f"Inn({len(inn.house)} rooms, {len(stays)} stays)")


class TestMaking(InnAsking):
    def test_a_new_inn(self):
        for house in ((1,), (3,), (1, 2, 3, 2, 1)):
            self.shows(Inn(house), (), (), (), 0)
            self.shows(Inn(house=house), (), (), (), 0)
        self.assertEqual(repr(Inn((1, 2, 3, 1, 1))), "Inn(5 rooms, 0 stays)")
        self.assertEqual(repr(Inn((1,))), "Inn(1 rooms, 0 stays)")

    def test_what_is_no_house(self):
        for house in NO_HOUSES:
            with self.subTest(house=repr(house)[:200]):
                self.assertIs(self.refusal(Inn, house=house), NoHouse)


class TestBook(InnAsking):
    def test_numbers_from_0_on(self):
        inn = Inn((1, 2))
        self.do(inn, "book", 0, stay=(1, 0, 2))
        self.do(inn, "book", 1, stay=(2, 1, 3))
        self.do(inn, "book", 2, stay=(1, 2, 1))
        self.shows(inn, ((0, (1, 0, 2)), (1, (2, 1, 3)), (2, (1, 2, 1))), (None, None, None), (0, 1, 0), 3)

    def test_what_is_no_stay(self):
        for inn in (Inn((1, 2)), inn_with((1,), *STEPS)):
            for stay in NO_STAY:
                self.refuse(inn, "book", NoStay, stay=stay)

    def test_not_now_where_they_would_not_fit(self):
        inn = inn_with((1, 2), (1, 0, 2))
        self.refuse(inn, "book", NotNow, stay=(3, 9, 1))
        self.do(inn, "book", 1, stay=(1, 1, 1))
        self.refuse(inn, "book", NotNow, stay=(1, 1, 1))
        self.refuse(inn, "book", NotNow, stay=(2, 0, 2))
        self.do(inn, "book", 2, stay=(2, 2, 8))

    def test_eight_kept_and_a_ninth(self):
        inn = inn_with((1, 1), *STEPS)
        self.refuse(inn, "book", NotNow, stay=(1, 20, 1))
        self.shows(inn, tuple(enumerate(STEPS)), (None,) * 8, (0,) * 8, 8)
        self.do(inn, "cancel", None, number=3)
        self.do(inn, "book", 8, stay=(1, 20, 1))
        self.refuse(inn, "book", NotNow, stay=(1, 20, 1))
        told = tuple((number, STEPS[number]) for number in range(8) if number != 3)
        self.shows(inn, (*told, (8, (1, 20, 1))), (None,) * 8, (0,) * 8, 10)

    def test_many_are_cancelled_and_booked(self):
        inn = Inn((1,))
        for number in range(30):
            self.do(inn, "book", number, stay=(1, 4, 2))
            self.refuse(inn, "book", NotNow, stay=(1, 5, 1))
            self.do(inn, "cancel", None, number=number)
        self.shows(inn, (), (), (), 60)

    def test_all_fit_though_there_is_no_plan(self):
        inn = Inn(MOVE_HOUSE)
        for number, stay in enumerate(MOVE_STAYS):
            self.do(inn, "book", number, stay=stay)
        self.shows(inn, tuple(enumerate(MOVE_STAYS)), (None,) * 4, None, 4)

    def test_where_stays_are_put_does_not_count(self):
        inn = inn_with((1, 2), (1, 0, 1))
        self.do(inn, "put", None, number=0, room=1)
        self.do(inn, "book", 1, stay=(2, 0, 1))
        self.shows(inn, ((0, (1, 0, 1)), (1, (2, 0, 1))), (1, None), None, 3)
        self.do(inn, "put", None, number=0, room=0)
        self.shows(inn, ((0, (1, 0, 1)), (1, (2, 0, 1))), (0, None), (0, 1), 4)


class TestCancel(InnAsking):
    def test_it_is_kept_no_more_and_the_others_keep_their_numbers(self):
        inn = inn_with((1, 1, 1), (1, 0, 2), (1, 0, 3), (1, 0, 4))
        self.do(inn, "cancel", None, number=1)
        self.shows(inn, ((0, (1, 0, 2)), (2, (1, 0, 4))), (None, None), (0, 1), 4)
        self.do(inn, "book", 3, stay=(1, 0, 3))
        self.shows(inn, ((0, (1, 0, 2)), (2, (1, 0, 4)), (3, (1, 0, 3))), (None,) * 3, (0, 1, 2), 5)

    def test_what_is_no_number(self):
        inn = inn_with((1, 1, 1), (1, 0, 2), (1, 0, 3), (1, 0, 4))
        for number in no_numbers(0, 2):
            self.refuse(inn, "cancel", NoNumber, number=number)
        inn.cancel(1)
        self.refuse(inn, "cancel", NoNumber, number=1)
        inn.cancel(2)
        for number in (*no_numbers(0, 0), 1, 2):
            self.refuse(inn, "cancel", NoNumber, number=number)
        self.do(inn, "cancel", None, number=0)
        self.refuse(Inn((1,)), "cancel", NoNumber, number=0)

    def test_what_was_put_is_out_of_its_room(self):
        inn = inn_with((1, 1), (1, 0, 2))
        inn.put(0, 0)
        inn.cancel(0)
        self.do(inn, "book", 1, stay=(1, 0, 2))
        self.do(inn, "put", None, number=1, room=0)
        self.shows(inn, ((1, (1, 0, 2)),), (0,), (0,), 5)


class TestPut(InnAsking):
    def test_put_in_a_room(self):
        inn = inn_with((1, 1, 2), (1, 0, 2), (1, 1, 2))
        self.do(inn, "put", None, number=0, room=1)
        self.shows(inn, tuple(enumerate(((1, 0, 2), (1, 1, 2)))), (1, None), (1, 0), 3)
        self.do(inn, "put", None, number=1, room=2)
        self.shows(inn, tuple(enumerate(((1, 0, 2), (1, 1, 2)))), (1, 2), (1, 2), 4)

    def test_put_again_elsewhere_and_there(self):
        inn = inn_with((1, 1, 2), (1, 0, 2))
        for deeds, room in enumerate((2, 2, 0, 0, 1, 2), start=2):
            self.do(inn, "put", None, number=0, room=room)
            self.shows(inn, ((0, (1, 0, 2)),), (room,), (room,), deeds)

    def test_what_is_no_number(self):
        inn = inn_with((1, 2), (1, 0, 2), (2, 0, 3))
        for number in no_numbers(0, 1):
            self.refuse(inn, "put", NoNumber, number=number, room=1)
            self.refuse(inn, "put", NoNumber, number=number, room=7)
        inn.cancel(0)
        self.refuse(inn, "put", NoNumber, number=0, room=1)
        self.refuse(inn, "put", NoNumber, number=0, room=None)
        self.refuse(Inn((1,)), "put", NoNumber, number=0, room=0)

    def test_what_is_no_room(self):
        inn = inn_with((1, 2), (1, 0, 2), (1, 0, 3))
        for room in no_numbers(0, 1):
            self.refuse(inn, "put", NoRooms, number=0, room=room)
            self.refuse(inn, "put", NoRooms, number=1, room=room)

    def test_a_room_in_which_it_may_not_sleep(self):
        inn = inn_with((1, 2, 3), (2, 0, 2), (3, 0, 2))
        self.refuse(inn, "put", NoRooms, number=0, room=0)
        self.refuse(inn, "put", NoRooms, number=1, room=0)
        self.refuse(inn, "put", NoRooms, number=1, room=1)
        self.refuse(inn, "put", NotNow, number=0, room=2)
        self.do(inn, "put", None, number=0, room=1)
        self.do(inn, "put", None, number=1, room=2)

    def test_no_rooms_is_due_ahead_of_not_now(self):
        inn = inn_with(MOVE_HOUSE, *MOVE_STAYS)
        self.refuse(inn, "put", NoRooms, number=1, room=0)
        self.refuse(inn, "put", NoRooms, number=1, room=2)
        self.refuse(inn, "put", NotNow, number=1, room=1)

    def test_not_now_where_two_would_have_one_room(self):
        inn = inn_with((1, 1), (1, 0, 2), (1, 1, 2), (1, 2, 2))
        self.do(inn, "put", None, number=0, room=1)
        self.refuse(inn, "put", NotNow, number=1, room=1)
        self.do(inn, "put", None, number=1, room=0)
        self.do(inn, "put", None, number=2, room=1)
        self.refuse(inn, "put", NotNow, number=0, room=0)
        self.refuse(inn, "put", NotNow, number=2, room=0)

    def test_not_now_where_others_would_have_no_room(self):
        inn = inn_with((1, 2), (1, 0, 1), (2, 0, 1))
        self.refuse(inn, "put", NotNow, number=0, room=1)
        self.do(inn, "put", None, number=0, room=0)

    def test_a_cancelled_one_is_in_nobodys_way(self):
        inn = inn_with((1, 2), (2, 0, 1), (1, 0, 1))
        inn.put(0, 1)
        self.refuse(inn, "put", NotNow, number=1, room=1)
        inn.cancel(0)
        self.do(inn, "put", None, number=1, room=1)

    def test_while_there_is_no_plan_nothing_can_be_put(self):
        inn = inn_with(MOVE_HOUSE, *MOVE_STAYS)
        for number, room in itertools.product(range(4), range(2)):
            due = NotNow if MOVE_HOUSE[room] >= MOVE_STAYS[number][0] else NoRooms
            self.refuse(inn, "put", due, number=number, room=room)
        inn.cancel(0)
        self.do(inn, "put", None, number=2, room=0)


class TestUndo(InnAsking):
    def test_none_left(self):
        inn = Inn((1, 2))
        self.refuse(inn, "undo", NoDeed)
        inn.book((1, 0, 1))
        inn.undo()
        self.refuse(inn, "undo", NoDeed)

    def test_of_book(self):
        inn = inn_with((1, 1), (1, 0, 2), (1, 0, 3))
        self.do(inn, "undo", None)
        self.shows(inn, ((0, (1, 0, 2)),), (None,), (0,), 1)
        self.refuse(inn, "cancel", NoNumber, number=1)
        self.do(inn, "book", 1, stay=(1, 5, 1))
        self.shows(inn, ((0, (1, 0, 2)), (1, (1, 5, 1))), (None, None), (0, 0), 2)

    def test_of_cancel(self):
        inn = inn_with((1, 1), (1, 0, 2), (1, 0, 3))
        inn.put(0, 1)
        before = told_of(inn)
        inn.cancel(0)
        self.do(inn, "undo", None)
        self.assertEqual(told_of(inn), before)
        self.shows(inn, ((0, (1, 0, 2)), (1, (1, 0, 3))), (1, None), (1, 0), 3)

    def test_of_put(self):
        inn = inn_with((1, 1), (1, 0, 2))
        for room in (1, 0, 0):
            inn.put(0, room)
        for room, deeds in ((0, 3), (1, 2), (None, 1)):
            self.do(inn, "undo", None)
            self.shows(inn, ((0, (1, 0, 2)),), (room,), (room or 0,), deeds)
        self.do(inn, "undo", None)
        self.shows(inn, (), (), (), 0)

    def test_what_is_refused_is_no_deed(self):
        inn = inn_with((1,), (1, 0, 2))
        self.refuse(inn, "book", NotNow, stay=(1, 1, 1))
        self.refuse(inn, "put", NoRooms, number=0, room=1)
        self.refuse(inn, "cancel", NoNumber, number=1)
        self.do(inn, "undo", None)
        self.shows(inn, (), (), (), 0)

    def test_what_is_undone_is_not_undone_again(self):
        inn = inn_with((1,), (1, 0, 1), (1, 1, 1), (1, 2, 1))
        inn.undo()
        inn.book((1, 5, 1))
        inn.undo()
        inn.undo()
        self.shows(inn, ((0, (1, 0, 1)),), (None,), (0,), 1)


class TestTelling(InnAsking):
    def test_left(self):
        inn = inn_with((1, 2, 3), (1, 0, 2), (2, 1, 2), (3, 1, 1))
        inn.cancel(2)
        inn.put(0, 2)
        stays = ((1, 0, 2), (2, 1, 2))
        for night, kind in itertools.product((0, 1, 2, 3, 40), (1, 2, 3)):
            told = self.answer(inn.left, night=night, kind=kind)
            self.assertEqual(told, left((1, 2, 3), stays, night, kind))
        self.assertEqual([inn.left(1, kind) for kind in (1, 2, 3)], [1, 1, 1])
        self.assertEqual([inn.left(0, kind) for kind in (1, 2, 3)], [2, 2, 1])

    def test_left_refused(self):
        wrongs = {"night": (NoNight, no_numbers(0, 40)), "kind": (NoKind, no_numbers(1, 3))}
        inn = inn_with((1, 2), (1, 0, 1))
        before = told_of(inn)
        self.check_refused(inn.left, ((0, 1), (40, 3)), wrongs)
        self.assertEqual(told_of(inn), before)

    def test_the_least_plan(self):
        stays = ((1, 0, 2), (1, 1, 2), (2, 2, 1), (1, 3, 4))
        inn = inn_with((1, 2, 3), *stays)
        self.assertEqual(("plan", inn.plan()), plan((1, 2, 3), stays))
        self.assertEqual(inn.plan(), (0, 1, 2, 0))
        inn.put(1, 2)
        self.assertEqual(inn.plan(), (0, 2, 1, 0))
        inn.put(3, 1)
        self.assertEqual(inn.plan(), (0, 2, 1, 1))

    def test_asking_changes_nothing(self):
        inn = inn_with((1, 2), (1, 0, 2), (2, 1, 2))
        twin = inn.twin()
        before = told_of(inn)
        inn.left(1, 1)
        inn.stays()
        inn.rooms()
        inn.plan()
        inn.twin()
        self.assertTrue(inn == twin)
        self.assertEqual(told_of(inn), before)

    def test_what_is_told_are_tuples(self):
        inn = inn_with((1, 2), (1, 0, 2), (2, 1, 2))
        for told in (inn.stays(), inn.rooms(), inn.plan(), *inn.stays()):
            self.assertIs(type(told), tuple)


class TestEqual(InnAsking):
    def same(self, one, other, due):
        for left_one, right_one in ((one, other), (other, one)):
            self.assertIs(left_one == right_one, due)
            self.assertIs(left_one != right_one, not due)

    def test_of_the_same_house(self):
        self.same(Inn((1, 2)), Inn((1, 2)), True)
        self.same(Inn((1, 2)), Inn((2, 1)), False)
        self.same(Inn((1, 2)), Inn((1,)), False)
        self.same(inn_with((1,), (1, 0, 1)), inn_with((2,), (1, 0, 1)), False)

    def test_that_keeps_the_same(self):
        self.same(inn_with((1, 2), (1, 0, 1)), inn_with((1, 2), (1, 0, 1)), True)
        self.same(inn_with((1, 2), (1, 0, 1)), Inn((1, 2)), False)
        self.same(inn_with((1, 2), (1, 0, 1)), inn_with((1, 2), (1, 0, 2)), False)
        self.same(inn_with((1, 2), (1, 0, 1), (1, 1, 1)), inn_with((1, 2), (1, 1, 1), (1, 0, 1)), False)

    def test_cancelled_ones_too(self):
        one = inn_with((1, 2), (1, 0, 1), (1, 5, 1))
        other = inn_with((1, 2), (1, 1, 1), (1, 5, 1))
        one.cancel(0)
        other.cancel(0)
        self.assertEqual(one.stays(), other.stays())
        self.same(one, other, False)
        third = inn_with((1, 2), (1, 0, 1), (1, 5, 1))
        self.same(one, third, False)
        third.cancel(0)
        self.same(one, third, True)
        self.same(one, inn_with((1, 2), (1, 5, 1)), False)

    def test_with_those_that_are_not_cancelled_put_so(self):
        one = inn_with((1, 2), (1, 0, 1))
        other = inn_with((1, 2), (1, 0, 1))
        one.put(0, 0)
        self.same(one, other, False)
        other.put(0, 1)
        self.same(one, other, False)
        other.put(0, 0)
        self.same(one, other, True)

    def test_where_cancelled_ones_were_put_does_not_count(self):
        one = inn_with((1, 2), (1, 0, 1))
        other = inn_with((1, 2), (1, 0, 1))
        one.put(0, 1)
        self.same(one, other, False)
        one.cancel(0)
        other.cancel(0)
        self.same(one, other, True)
        one.undo()
        other.undo()
        self.same(one, other, False)

    def test_deeds_that_can_be_undone_do_not_count(self):
        one = inn_with((1, 2), (1, 0, 1))
        other = inn_with((1, 2), (1, 0, 1))
        one.put(0, 1)
        one.put(0, 0)
        other.put(0, 0)
        self.assertNotEqual(len(one), len(other))
        self.same(one, other, True)
        one.undo()
        other.undo()
        self.same(one, other, False)

    def test_what_was_undone_does_not_count(self):
        one = inn_with((1, 2), (1, 0, 1), (1, 1, 1))
        one.undo()
        self.same(one, inn_with((1, 2), (1, 0, 1)), True)

    def test_to_nothing_else(self):
        inn = inn_with((1, 2), (1, 0, 1))
        self.same(inn, inn, True)
        for thing in (*NO_TUPLES, (1, 2), ((1, 2), ((1, 0, 1),)), repr(inn), inn.stays(), object()):
            self.same(inn, thing, False)


class TestTwin(InnAsking):
    def test_it_is_another_one_that_is_equal(self):
        inn = inn_with((1, 2), (1, 0, 1), (2, 0, 1), (1, 4, 2))
        inn.cancel(1)
        inn.put(2, 1)
        twin = inn.twin()
        self.assertIs(type(twin), Inn)
        self.assertIsNot(twin, inn)
        self.assertTrue(twin == inn)
        self.assertEqual(told_of(twin), told_of(inn))

    def test_the_same_deeds_can_be_undone(self):
        inn = inn_with((1, 2), (1, 0, 1), (2, 0, 1), (1, 4, 2))
        inn.cancel(1)
        inn.put(2, 1)
        twin = inn.twin()
        for deed in range(5):
            inn.undo()
            twin.undo()
            self.assertTrue(twin == inn)
            self.assertEqual(told_of(twin), told_of(inn))
        self.refuse(twin, "undo", NoDeed)

    def test_each_goes_on_alone(self):
        inn = inn_with((1, 2), (1, 0, 1))
        twin = inn.twin()
        before = told_of(inn)
        twin.book((2, 0, 1))
        twin.put(0, 0)
        self.assertEqual(told_of(inn), before)
        self.assertFalse(twin == inn)
        inn.cancel(0)
        self.shows(twin, ((0, (1, 0, 1)), (1, (2, 0, 1))), (0, None), (0, 1), 3)
        self.shows(inn, (), (), (), 2)
        inn.undo()
        inn.undo()
        self.shows(twin, ((0, (1, 0, 1)), (1, (2, 0, 1))), (0, None), (0, 1), 3)
        twin.undo()
        twin.undo()
        self.shows(twin, ((0, (1, 0, 1)),), (None,), (0,), 1)
        self.shows(inn, (), (), (), 0)

    def test_twins_of_a_new_inn_and_of_a_twin(self):
        inn = Inn((3,))
        twin = inn.twin().twin()
        self.shows(twin, (), (), (), 0)
        twin.book((3, 0, 1))
        self.shows(inn, (), (), (), 0)


class Model:
    """An inn in plain words: a list of [stay, cancelled, room], and copies of it for each deed; all by trying."""

    def __init__(self, house):
        self.house, self.rows, self.past = house, [], []

    def there(self):
        return [number for number, row in enumerate(self.rows) if not row[1]]

    def stays(self):
        return [self.rows[number][0] for number in self.there()]

    def plan(self, rows=None):
        rows = [row for row in (self.rows if rows is None else rows) if not row[1]]
        found = [
            rooms for rooms in all_plans(self.house, [row[0] for row in rows])
            if all(row[2] in (None, room) for row, room in zip(rows, rooms))
        ]
        return min(found, default=None)

    def do(self, name, *given):
        """What is told, or the class that is due."""
        if name == "undo":
            if not self.past:
                return NoDeed
            self.rows = self.past.pop()
            return None
        rows = copy.deepcopy(self.rows)
        if name == "book":
            if len(self.there()) == 8 or fits_due(self.house, [*self.stays(), *given]) != ("fits",):
                return NotNow
            rows.append([given[0], False, None])
        elif given[0] not in self.there():
            return NoNumber
        elif name == "cancel":
            rows[given[0]][1:] = [True, None]
        else:
            if not 0 <= given[1] < len(self.house) or self.house[given[1]] < rows[given[0]][0][0]:
                return NoRooms
            rows[given[0]][2] = given[1]
            if self.plan(rows) is None:
                return NotNow
        self.past.append(self.rows)
        self.rows = rows
        return len(rows) - 1 if name == "book" else None


def some_deed(chance, house, model):
    name = chance.choice(("book", "book", "book", "put", "put", "cancel", "undo"))
    if name == "book":
        return name, (chance.choice((1, 1, 2, 3)), chance.randint(0, 4), chance.randint(1, 3))
    if name == "undo":
        return (name,)
    number = chance.randint(-1 if chance.random() < 0.1 else 0, len(model.rows))
    return (name, number) if name == "cancel" else (name, number, chance.randint(0, len(house)))


class TestGoingOn(InnAsking):
    def check(self, inn, model):
        there = model.there()
        self.assertEqual(inn.stays(), tuple((number, model.rows[number][0]) for number in there))
        self.assertEqual(inn.rooms(), tuple(model.rows[number][2] for number in there))
        self.assertEqual(inn.plan(), model.plan())
        self.assertEqual(len(inn), len(model.past))
        self.assertEqual(repr(inn), f"Inn({len(model.house)} rooms, {len(there)} stays)")

    def test_deeds_one_after_the_other(self):
        chance = random.Random(110)
        seen = set()
        for step in range(25):
            house = tuple(chance.randint(1, 3) for room in range(chance.randint(1, 3)))
            inn, model = Inn(house), Model(house)
            for deed in range(30):
                name, *given = some_deed(chance, house, model)
                due = model.do(name, *given)
                seen.add((name, due if isinstance(due, type) else "done"))
                before, shown = inn.twin(), told_of(inn)
                try:
                    told = getattr(inn, name)(*given)
                except ValueError as error:
                    told = type(error)
                    self.assertTrue(inn == before)
                    self.assertEqual(told_of(inn), shown)
                self.assertEqual(told, due, (house, model.rows, name, given))
                self.assertEqual(told_of(before), shown)
                self.check(inn, model)
            night, kind = chance.randint(0, 7), chance.randint(1, 3)
            self.assertEqual(inn.left(night, kind), left_due(house, model.stays(), night, kind))
        self.assertEqual(seen, {
            ("book", "done"), ("book", NotNow), ("cancel", "done"), ("cancel", NoNumber), ("put", "done"),
            ("put", NoNumber), ("put", NoRooms), ("put", NotNow), ("undo", "done"), ("undo", NoDeed),
        })


if __name__ == "__main__":
    unittest.main()
