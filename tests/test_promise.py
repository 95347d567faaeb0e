"""Point 5, the promise over the whole program: what one part tells holds for the others."""

import random
import unittest

from nightsheld.bills import bill, nightly
from nightsheld.choice import best
from nightsheld.desk import Desk
from nightsheld.errors import NoRooms, NotNow
from nightsheld.fits import begins, fits, left
from nightsheld.groups import first_day, left_then
from nightsheld.houses import sleeping
from nightsheld.inn import Inn
from nightsheld.moves import is_nightly, least_moves, moves_of
from nightsheld.parts import is_table, shared, table
from nightsheld.plans import how_many, nearest, plan, shows_plan
from nightsheld.texts import house_text, read_house
from nightsheld.truths import first_wrong, known, told_rows
from tests.things import MOVE_HOUSE, MOVE_STAYS, some_cases

WORDS = ("stay", "prices", "rule")


def some_stay(chance):
    return chance.choice((1, 1, 2, 3)), chance.randint(0, 8), chance.randint(1, 5)


def some_house(chance):
    return tuple(chance.choice((1, 2, 2, 3)) for room in range(chance.randint(1, 5)))


def some_prices(chance):
    return tuple(tuple(chance.randint(0, 1000) for night in range(7)) for kind in range(3))


def some_rule(chance):
    return chance.choice((0, 2, 3, 8)), chance.choice(((0, 1), (1, 10), (7, 100), (1, 1)))


class TestRooms(unittest.TestCase):
    def slept_in_by_one(self, house, stays, rooms):
        """No room is slept in by two on one night, and nobody sleeps below its kind; rooms by nights."""
        for night in range(41):
            slept = [rooms[number][night - stays[number][1]] for number in sleeping(stays, night)]
            self.assertEqual(len(slept), len(set(slept)))
            for number, room in zip(sleeping(stays, night), slept):
                self.assertGreaterEqual(house[room], stays[number][0])

    def bars(self, house, stays, told):
        """The told night and kind bar each plan."""
        word, night, kind, many, rooms = told
        self.assertEqual(word, "over")
        self.assertEqual(many, len([number for number in sleeping(stays, night) if stays[number][0] >= kind]))
        self.assertEqual(rooms, len([room for room in house if room >= kind]))
        self.assertGreater(many, rooms)

    def test_stays_fit_just_where_there_is_a_plan_by_nights(self):
        both = set()
        for house, stays in some_cases(random.Random(5), 400, 5, 8, 12, 6):
            told, moves = fits(house, stays), least_moves(house, stays)
            both.add(told[0])
            with self.subTest(house=house, stays=stays):
                if told == ("fits",):
                    self.assertTrue(is_nightly(house, stays, moves[1]))
                    self.assertEqual(moves_of(house, stays, moves[1]), moves[0])
                    self.slept_in_by_one(house, stays, moves[1])
                else:
                    self.assertIsNone(moves)
                    self.bars(house, stays, told)
        self.assertEqual(both, {"fits", "over"})

    def test_a_plan_without_moves_is_told_or_stays_that_have_none(self):
        seen = set()
        cases = some_cases(random.Random(6), 300, 4, 8, 9, 4)
        # Few others need moves.
        cases += [((*MOVE_HOUSE, 1), (*MOVE_STAYS, (1, 0, nights))) for nights in range(1, 9)]
        for house, stays in cases:
            told, moves = plan(house, stays), least_moves(house, stays)
            seen.add((told[0], None if moves is None else moves[0] > 0))
            with self.subTest(house=house, stays=stays):
                self.assertTrue(shows_plan(house, stays, told))
                self.assertEqual(told[0] == "plan", moves is not None and moves[0] == 0)
                self.assertEqual(told[0] == "plan", how_many(house, stays) > 0)
                if told[0] == "plan":
                    rows = tuple((room,) * stay[2] for room, stay in zip(told[1], stays))
                    self.slept_in_by_one(house, stays, rows)
                    self.assertEqual(nearest(house, stays, told[1]), (0, told[1]))
        self.assertEqual(seen, {("plan", False), ("none", None), ("none", True)})

    def test_begins_left_groups_and_choice_tell_the_same_as_fits(self):
        chance = random.Random(7)
        for house, stays in some_cases(chance, 60, 5, 7, 9, 4):
            stay = some_stay(chance)
            fit = fits(house, (*stays, stay)) == ("fits",)
            with self.subTest(house=house, stays=stays, stay=stay):
                self.assertEqual(stay[1] in begins(house, stays, stay[0], stay[2]), fit)
                self.assertEqual(first_day(house, stays, (), stay), 0 if fit else None)
                self.assertEqual(best(house, stays, ((stay, 7),)) == (7, (0,)), fit)
                self.assertEqual(best(house, stays, ()) is None, fits(house, stays) != ("fits",))
                many = [left(house, stays, night, stay[0]) for night in range(stay[1], stay[1] + stay[2])]
                if fits(house, stays) == ("fits",):
                    self.assertEqual(min(many) > 0, fit)
                for night in (stay[1], 40):
                    told = left_then(house, stays, (), 50, night, stay[0])
                    self.assertEqual(told, left(house, stays, night, stay[0]))


class TestInns(unittest.TestCase):
    def check(self, inn):
        stays = tuple(stay for number, stay in inn.stays())
        self.assertEqual(fits(inn.house, stays), ("fits",))
        rooms = inn.plan()
        if rooms is not None:
            self.assertTrue(shows_plan(inn.house, stays, ("plan", rooms)))
            for put, room in zip(inn.rooms(), rooms, strict=True):
                self.assertIn(put, (None, room))
        if inn.rooms() == (None,) * len(stays):
            told = plan(inn.house, stays)
            self.assertEqual(rooms, told[1] if told[0] == "plan" else None)
        for night, kind in ((0, 1), (3, 2), (7, 3)):
            self.assertEqual(inn.left(night, kind), left(inn.house, stays, night, kind))

    def book(self, inn, stay):
        """It books just where less than eight are kept and all fit."""
        stays = tuple(each for number, each in inn.stays())
        due = len(stays) < 8 and fits(inn.house, (*stays, stay)) == ("fits",)
        try:
            inn.book(stay)
        except NotNow:
            self.assertFalse(due)
        else:
            self.assertTrue(due)

    def test_an_inn_books_just_where_all_fit(self):
        chance = random.Random(8)
        for step in range(25):
            inn = Inn(some_house(chance))
            for deed in range(25):
                self.book(inn, some_stay(chance))
                there = [number for number, stay in inn.stays()]
                if there and chance.random() < 0.3:
                    try:
                        inn.put(chance.choice(there), chance.randrange(len(inn.house)))
                    except (NotNow, NoRooms):
                        pass
                if there and chance.random() < 0.2:
                    inn.cancel(chance.choice(there))
                if len(inn) and chance.random() < 0.2:
                    inn.undo()
                self.check(inn)

    def test_a_desk_keeps_what_a_text_writes(self):
        for house, stays in some_cases(random.Random(9), 60, 5, 8, 20, 4):
            if fits(house, stays) == ("fits",):
                text = house_text(house, stays)
                self.assertEqual(read_house(text), (house, stays))
                desk = Desk()
                lines = text.replace("rooms", "house").replace("stay", "book").splitlines()
                self.assertEqual([desk.say(line) for line in lines], ["ok", *map(str, range(len(stays)))])
                rows = [f"{number} {kind} {first} {nights}" for number, (kind, first, nights) in enumerate(stays)]
                self.assertEqual(desk.say("stays"), " | ".join(rows) or "none")
                told = plan(house, stays)
                rooms = " ".join(map(str, told[1])) or "none"
                moves = f"moves {least_moves(house, stays)[0]}"
                self.assertEqual(desk.say("plan"), rooms if told[0] == "plan" else moves)


class TestCoins(unittest.TestCase):
    def test_bills_come_to_their_nights_and_parts_to_their_bills(self):
        chance = random.Random(10)
        for step in range(100):
            prices, rule, stay = some_prices(chance), some_rule(chance), some_stay(chance)
            nights = nightly(prices, rule, stay)
            coins, tax, total = bill(prices, rule, stay)
            self.assertEqual((sum(nights), coins + tax), (coins, total))
            parts = tuple(chance.randint(0, 9) for payer in range(chance.randint(0, 3))) + (1,)
            self.assertEqual(sum(shared(parts, total)), total)
            rows = table(parts, nights)
            self.assertTrue(is_table(parts, nights, rows))
            self.assertEqual(tuple(sum(row) for row in rows), nights)
            self.assertEqual(sum(sum(row) for row in rows), coins)

    def test_told_rows_come_to_what_is_known(self):
        chance = random.Random(11)
        makers = dict(zip(WORDS, (some_stay, some_prices, some_rule)))
        for step in range(100):
            days = sorted(chance.choices(range(100), k=7))
            book = tuple((days[0], word, makers[word](chance)) for word in WORDS)
            book += tuple((day, word, makers[word](chance)) for day in days for word in [chance.choice(WORDS)])
            rows = told_rows(book)
            self.assertIsNone(first_wrong(book, rows))
            for day in {*days, 99}:
                stay, prices, rule = known(book, day)
                costs = nightly(prices, rule, stay)
                for night in range(41):
                    told = sum(coins for on, at, coins in rows if on <= day and at == night)
                    asleep = stay[1] <= night < stay[1] + stay[2]
                    self.assertEqual(told, costs[night - stay[1]] if asleep else 0)


if __name__ == "__main__":
    unittest.main()
