"""Points 60 and 61: which uses open, which keys open though their guests are gone, who is locked out."""

import itertools
import random
import unittest

from nightsheld.errors import NoGone, NoKeys, NoUses
from nightsheld.keys import ghosts, locked_out, opened
from tests.asking import Asking
from tests.things import NO_TUPLES, nest, no_numbers

TWO = ((0, 10, 20, 5), (0, 15, 30, 6))
EIGHT = (
    (0, 0, 200, 1), (4, 199, 200, 99), (0, 0, 1, 2), (1, 50, 100, 1), (1, 50, 100, 2), (0, 100, 200, 3),
    (4, 0, 200, 98), (2, 7, 9, 50),
)
TWENTY = (
    (0, 0), (0, 2), (0, 0), (7, 7), (8, 7), (9, 7), (50, 3), (50, 4), (50, 3), (60, 4), (99, 4), (100, 4), (100, 0),
    (100, 5), (100, 0), (198, 6), (199, 6), (199, 1), (199, 6), (200, 1),
)
TWENTY_OPENED = (
    True, True, False, True, True, False, True, True, False, True, True, False, False,
    True, False, True, True, True, False, False,
)

NO_KEYS = (
    tuple((0, 0, 1, serial) for serial in range(1, 10)), ((0, 0, 1, 1), (0, 0, 1, 1)), ((0, 0, 1, 1), (0, 5, 9, 1)),
    ((0, 0, 1, 1), (1, 0, 1, 1), (0, 1, 2, 1)), ((0, 5, 5, 1),), ((0, 6, 5, 1),), ((0, 200, 200, 1),), ((0, 0, 0, 1),),
    (0, 0, 1, 1), (1,), ((0, 0, 1),), ((0, 0, 1, 1, 1),), ((),), ([0, 0, 1, 1],), ((1, 0, 1, 1), [0, 0, 1, 1]),
    ((0, 0, 1, 1), None), (((0, 0, 1, 1),),), nest(8), *NO_TUPLES,
    *[((1, 0, 1, 1), (thing, 0, 1, 1)) for thing in no_numbers(0, 4)],
    *[((0, thing, 200, 1),) for thing in no_numbers(0, 199)],
    *[((0, 0, thing, 1),) for thing in no_numbers(1, 200)],
    *[((0, 0, 1, thing), (0, 0, 1, 5)) for thing in no_numbers(1, 99)],
)

NO_USES = (
    ((0, 0),) * 21, ((0, 0),) * 100, ((5, 0), (4, 0)), ((5, 0), (6, 1), (5, 1)), ((0, 0), (200, 1), (199, 1)), (0, 0),
    (1,), ((0,),), ((0, 0, 0),), ((),), ([0, 0],), ((0, 0), [1, 1]), ((0, 0), None), (((0, 0),),), nest(8), *NO_TUPLES,
    *[((thing, 0),) for thing in no_numbers(0, 200)], *[((0, thing), (200, 0)) for thing in no_numbers(0, 1)],
)

NO_GONE = (
    (), (None,), (None,) * 3, (9, None), (21, None), (None, 14), (None, 31), (15,), (15, 15, 15), ((15, 15),), nest(8),
    *NO_TUPLES, *[(thing, None) for thing in no_numbers(10, 20) if thing is not None],
    *[(None, thing) for thing in no_numbers(15, 30) if thing is not None],
)


def opened_due(keys, uses):
    """Whether each use opens: from the uses ahead of it that opened this very door."""
    told = []
    for hour, number in uses:
        room, begin, end, serial = keys[number]
        ahead = [keys[other] for (then, other), did in zip(uses, told) if did]
        kept = max([key[3] for key in ahead if key[0] == room], default=0)
        told.append(hour in range(begin, end) and serial >= kept)
    return told


def states(keys, gone, uses):
    """For each hour and number whether the guest has come, is gone, and whether the key would open once more."""
    for hour, number in itertools.product(range(201), range(len(keys))):
        room, begin, end, serial = keys[number]
        leaves = end if gone[number] is None else gone[number]
        ahead = [use for use in uses if use[0] <= hour]
        yield hour, number, hour >= begin, hour >= leaves, opened_due(keys, [*ahead, (hour, number)])[-1]


def ghosts_due(keys, gone, uses):
    return tuple((hour, number) for hour, number, come, left, does in states(keys, gone, uses) if left and does)


def locked_due(keys, gone, uses):
    found = states(keys, gone, uses)
    return tuple((hour, number) for hour, number, come, left, does in found if come and not left and not does)


def some_keys(chance):
    last = chance.choice((10, 30, 200))
    names = [(room, serial) for room in range(chance.choice((1, 2, 5))) for serial in (1, 2, 3, 50, 99)]
    keys = []
    for room, serial in chance.sample(names, chance.randint(0, min(8, len(names)))):
        begin = chance.randint(0, last - 1)
        keys.append((room, begin, chance.randint(begin + 1, last), serial))
    uses = []
    if keys:
        uses = sorted((chance.randint(0, last), chance.randrange(len(keys))) for use in range(chance.randint(0, 20)))
        uses.sort(key=lambda use: (use[0], chance.random()))
    gone = [chance.choice((None, key[1], key[2], chance.randint(key[1], key[2]))) for key in keys]
    return tuple(keys), tuple(gone), tuple(uses)


class TestOpened(Asking):
    def due(self, keys, uses, told):
        with self.subTest(keys=keys, uses=uses):
            self.assertEqual(self.answer(opened, keys=keys, uses=uses), told)

    def test_no_keys_and_no_uses(self):
        self.due((), (), ())
        self.due(TWO, (), ())
        self.due(EIGHT, (), ())

    def test_from_begin_on_and_ahead_of_end(self):
        for begin, end in ((0, 1), (10, 20), (0, 200), (199, 200), (100, 101)):
            for hour in range(201):
                self.due(((3, begin, end, 1),), ((hour, 0),), (begin <= hour < end,))

    def test_a_greater_serial_shuts_out_the_lesser_one(self):
        self.due(TWO, ((12, 0), (15, 1), (16, 0), (17, 1)), (True, True, False, True))
        self.due(TWO, ((15, 1), (15, 0), (15, 1)), (True, False, True))
        self.due(TWO, ((15, 0), (15, 1), (15, 0)), (True, True, False))

    def test_a_use_that_does_not_open_is_not_kept(self):
        self.due(TWO, ((12, 1), (12, 0)), (False, True))
        self.due(TWO, ((14, 1), (14, 0), (15, 1), (15, 0)), (False, True, True, False))

    def test_the_same_key_again(self):
        self.due(TWO, ((10, 0),) * 20, (True,) * 20)

    def test_each_door_keeps_its_own(self):
        keys = tuple((room, 0, 200, 10 - room) for room in range(5))
        uses = tuple((0, number) for number in (0, 1, 2, 3, 4, 3, 2, 1, 0))
        self.due(keys, uses, (True,) * 9)

    def test_what_is_kept_stays_kept_when_the_key_has_ended(self):
        self.due(((1, 0, 2, 9), (1, 0, 100, 8)), ((1, 0), (50, 1)), (True, False))

    def test_eight_keys_and_twenty_uses(self):
        self.due(EIGHT, TWENTY, TWENTY_OPENED)
        self.assertEqual(TWENTY_OPENED, tuple(opened_due(EIGHT, TWENTY)))

    def test_others(self):
        chance = random.Random(60)
        for step in range(200):
            keys, gone, uses = some_keys(chance)
            self.due(keys, uses, tuple(opened_due(keys, uses)))

    def test_truths_are_told(self):
        told = opened(EIGHT, TWENTY)
        self.assertIs(type(told), tuple)
        self.assertEqual([type(each) for each in told], [bool] * 20)

    def test_refusals(self):
        wrongs = {"keys": (NoKeys, NO_KEYS), "uses": (NoUses, NO_USES)}
        self.check_refused(opened, ((TWO, ()), (TWO, ((0, 1), (0, 0), (200, 0)))), wrongs)

    def test_numbers_of_keys_that_are_there(self):
        self.assertIs(self.refusal(opened, keys=(), uses=((0, 0),)), NoUses)
        self.assertIs(self.refusal(opened, keys=(), uses=((0, -1),)), NoUses)
        self.assertIs(self.refusal(opened, keys=TWO[:1], uses=((0, 1),)), NoUses)
        self.assertIs(self.refusal(opened, keys=EIGHT, uses=((0, 8),)), NoUses)

    def test_the_bounds_of_keys(self):
        self.due(((0, 0, 1, 1), (4, 199, 200, 99), (0, 0, 1, 2), (1, 0, 1, 1)), (), ())
        self.due(tuple((0, 0, 1, serial) for serial in range(1, 9)), (), ())


class TestGone(Asking):
    def due(self, keys, gone, uses, told, locked):
        with self.subTest(keys=keys, gone=gone, uses=uses):
            self.assertEqual(self.answer(ghosts, keys=keys, gone=gone, uses=uses), told)
            self.assertEqual(self.answer(locked_out, keys=keys, gone=gone, uses=uses), locked)

    def test_no_keys(self):
        self.due((), (), (), (), ())

    def test_none_is_gone_from_the_end_on(self):
        self.due(((0, 10, 20, 5),), (None,), (), (), ())
        self.due(((0, 10, 20, 5),), (20,), (), (), ())
        self.due(((0, 0, 200, 5),), (None,), ((0, 0),), (), ())

    def test_gone_ahead_of_the_end_the_key_still_opens(self):
        self.due(((0, 10, 13, 5),), (12,), (), ((12, 0),), ())
        self.due(((0, 10, 13, 5),), (11,), (), ((11, 0), (12, 0)), ())
        self.due(((0, 10, 13, 5),), (10,), (), ((10, 0), (11, 0), (12, 0)), ())

    def test_the_first_and_the_last_hours(self):
        self.due(((0, 0, 2, 5), (1, 198, 200, 5)), (0, 198), (), ((0, 0), (1, 0), (198, 1), (199, 1)), ())
        self.due(((0, 0, 2, 5), (0, 0, 2, 6)), (None, None), ((0, 1),), (), ((0, 0), (1, 0)))
        self.due(((0, 198, 200, 5), (0, 0, 200, 6)), (None, None), ((0, 1),), (), ((198, 0), (199, 0)))

    def test_a_greater_serial_ends_ghosts(self):
        self.due(TWO, (14, None), ((12, 0), (15, 1)), ((14, 0),), ())
        self.due(TWO, (14, None), ((12, 0), (17, 1)), ((14, 0), (15, 0), (16, 0)), ())

    def test_a_greater_serial_locks_out_who_is_there(self):
        self.due(TWO, (None, None), ((15, 1),), (), ((15, 0), (16, 0), (17, 0), (18, 0), (19, 0)))
        self.due(TWO, (17, None), ((15, 1),), (), ((15, 0), (16, 0)))
        self.due(TWO, (15, None), ((15, 1),), (), ())

    def test_of_one_hour_behind_all_uses(self):
        self.due(TWO, (None, None), ((19, 0), (19, 1)), (), ((19, 0),))
        self.due(TWO, (None, None), ((19, 1), (19, 0)), (), ((19, 0),))
        self.due(TWO, (18, None), ((19, 0), (19, 1)), ((18, 0),), ())

    def test_a_use_that_does_not_open_changes_nothing(self):
        self.due(TWO, (None, None), ((14, 1),), (), ())
        self.due(TWO, (None, 29), ((30, 1),), ((29, 1),), ())

    def test_rising_by_hour_then_number(self):
        keys = ((1, 3, 6, 2), (0, 3, 6, 2), (0, 2, 5, 3))
        told = ((2, 2), (3, 1), (3, 2), (4, 0), (4, 1), (4, 2), (5, 0), (5, 1))
        self.due(keys, (4, 3, 2), (), told, ())

    def test_eight_keys_and_twenty_uses(self):
        for gone in (
            (None,) * 8, tuple(key[1] for key in EIGHT), tuple(key[2] for key in EIGHT),
            (50, 199, 0, 75, None, 150, 199, 8),
        ):
            self.due(EIGHT, gone, TWENTY, ghosts_due(EIGHT, gone, TWENTY), locked_due(EIGHT, gone, TWENTY))

    def test_others(self):
        chance = random.Random(61)
        for step in range(40):
            keys, gone, uses = some_keys(chance)
            self.due(keys, gone, uses, ghosts_due(keys, gone, uses), locked_due(keys, gone, uses))

    def test_refusals(self):
        wrongs = {"keys": (NoKeys, NO_KEYS), "gone": (NoGone, NO_GONE), "uses": (NoUses, NO_USES[:20] + NO_USES[20::4])}
        for asked in (ghosts, locked_out):
            self.check_refused(asked, ((TWO, (None, 15), ((0, 1), (200, 0))),), wrongs)

    def test_each_key_has_its_own_bounds(self):
        for asked in (ghosts, locked_out):
            for hour in (10, 15, 20):
                self.answer(asked, keys=TWO, gone=(hour, None), uses=())
            for hour in (15, 20, 30):
                self.answer(asked, keys=TWO, gone=(None, hour), uses=())
            for gone in ((9, None), (21, None), (None, 14), (None, 31), (30, None), (None, 10)):
                self.assertIs(self.refusal(asked, keys=TWO, gone=gone, uses=()), NoGone)
            self.assertIs(self.refusal(asked, keys=(), gone=(None,), uses=()), NoGone)


if __name__ == "__main__":
    unittest.main()
