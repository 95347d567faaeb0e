"""Point 121: a desk, its lines, their answers and refusals."""

import random
import unittest

from nightsheld.desk import Desk
from nightsheld.errors import (
    NoDeed, NoHouse, NoKind, NoLine, NoNight, NoNumber, NoRooms, NoStay, NotNow,
)
from nightsheld.fits import fits
from nightsheld.houses import is_house, is_stay
from nightsheld.inn import Inn
from nightsheld.moves import least_moves
from tests.things import ALL_MEET, MOVE_STAYS, NO_TUPLES, NO_WHOLES, TEXTS, Kept, nest

LINES = ("house 1 2", "book 1 0 2", "cancel 0", "put 0 1", "undo", "stays", "plan", "left 0 1", "over 1 0 2")
NINES = "9" * 12

NO_LINES = (
    *NO_TUPLES, *NO_WHOLES, *TEXTS,
    ["plan"], ("plan",), {"plan": 1}, ["house", "1"], nest(8), ["house 1"], ("book", 1, 0, 2),
    "house", "house ", "house  1", " house 1", "house 1 ", "house 1  2", "house 0", "house 4", "house 1 1 1 1 1 1",
    "house 01", "house 1,2", "house -1", "house x", "House 1", "house 1\n", "house1", "rooms 1", "house " + NINES,
    "book", "book ", "book 1", "book 1 0", "book 1 0 2 3", "book 1 0  2", "book  1 0 2", " book 1 0 2", "book 1 0 2 ",
    "book 1 00 2", "book 01 0 2", "book 1 0 -2", "book 1 0 +2", "book 1 0 x", "Book 1 0 2", "book 1 0 2\n",
    "book 1 0 1" + NINES, "book 1, 0, 2", "book (1, 0, 2)", "stay 1 0 2", "books 1 0 2",
    "cancel", "cancel ", "cancel 0 0", "cancel 00", "cancel -1", "cancel x", "cancel  0", " cancel 0", "cancel 0 ",
    "cancel 0\n", "cancel 1" + NINES, "Cancel 0",
    "put", "put ", "put 0", "put 0 0 0", "put 0 01", "put 0 -1", "put 0  0", "put 0 0 ", " put 0 0", "put 0 0\n",
    "put 0 x", "put 0 None", "put 0 1" + NINES,
    "undo 0", "undo ", " undo", "undo\n", "Undo", "undoes", "undo undo",
    "stays 0", "stays ", " stays", "stays\n", "Stays", "stay", "plan 0", "plan ", " plan", "plan\n", "Plan", "plans",
    "plan plan", "plan\nplan", "rooms", "moves", "none", "ok", "twin", "fits", "len",
    "left", "left ", "left 0", "left 0 1 2", "left 0 01", "left -1 1", "left 0  1", "left 0 1 ", " left 0 1",
    "left 0 1\n", "left 0 x", "left 0 1" + NINES, "Left 0 1",
    "over", "over ", "over 1 0", "over 1 0 2 3", "over 1 00 2", "over 1 0  2", "over 1 0 2 ", " over 1 0 2",
    "over 1 0 2\n", "over 1 -1 2", "over 1 0 1" + NINES, "Over 1 0 2",
)


def desk_with(*lines):
    desk = Desk()
    for line in lines:
        desk.say(line)
    return desk


def heard(desk):
    """What a desk answers to all that asks and does nothing, or that it has no house."""
    told = []
    for line in ("stays", "plan", "left 0 1", "left 1 2", "left 20 3", "over 1 0 8", "over 3 20 1"):
        try:
            told.append(desk.say(line))
        except NoHouse:
            told.append(NoHouse)
    return told


class DeskAsking(unittest.TestCase):
    def says(self, desk, *pairs):
        for line, told in pairs:
            with self.subTest(line=line):
                answer = desk.say(line)
                self.assertIs(type(answer), str)
                self.assertEqual(answer, told)

    def refused(self, desk, line, due):
        """Refused by just this class, by place and by name, and nothing is changed."""
        kept = Kept(line)
        before = heard(desk)
        for way in (lambda: desk.say(line), lambda: desk.say(line=line), lambda: desk.say(line)):
            with self.subTest(line=repr(line)[:200]):
                with self.assertRaises(ValueError) as caught:
                    way()
                self.assertIs(type(caught.exception), due)
        self.assertEqual(heard(desk), before)
        self.assertTrue(kept.holds())


class TestDesk(DeskAsking):
    def test_without_a_house(self):
        desk = Desk()
        for line in LINES[1:]:
            self.refused(desk, line, NoHouse)
        # No line is refused as none ahead of that; no stay, night, kind or number behind it.
        for line in ("book 9 9 9", "cancel 7", "put 7 7", "left 99 9", "over 9 9 9", "over 1 0 0"):
            self.refused(desk, line, NoHouse)
        for line in NO_LINES:
            self.refused(desk, line, NoLine)

    def test_what_is_no_line_with_a_house(self):
        desk = desk_with("house 1 2", "book 1 0 2", "book 2 1 3", "put 0 0")
        for line in NO_LINES:
            self.refused(desk, line, NoLine)
        self.says(desk, ("stays", "0 1 0 2 | 1 2 1 3"), ("undo", "ok"), ("undo", "ok"), ("stays", "0 1 0 2"))

    def test_each_form_of_line(self):
        desk = desk_with("house 1 2", "book 1 0 2")
        self.says(desk, ("put 0 1", "ok"), ("plan", "1"), ("cancel 0", "ok"), ("stays", "none"), ("undo", "ok"))
        self.says(desk, ("plan", "1"), ("left 0 1", "1"), ("left 0 2", "1"), ("over 2 0 1", "fits"))
        self.says(desk, ("over 3 0 1", "0 3 1 0"))

    def test_by_name(self):
        desk = Desk()
        for line, told in zip(LINES[:3], ("ok", "0", "ok")):
            self.assertEqual(desk.say(line=line), told)

    def test_house(self):
        self.says(Desk(), ("house 1", "ok"), ("left 0 1", "1"), ("left 0 2", "0"))
        self.says(Desk(), ("house 3 3 3 3 3", "ok"), ("left 40 3", "5"), ("stays", "none"), ("plan", "none"))

    def test_a_second_house_amid(self):
        desk = desk_with("house 1 2", "book 1 0 2", "put 0 1")
        self.says(desk, ("house 3", "ok"), ("stays", "none"), ("plan", "none"), ("left 0 3", "1"))
        self.refused(desk, "undo", NoDeed)
        self.refused(desk, "cancel 0", NoNumber)
        self.says(desk, ("book 3 0 2", "0"), ("house 3", "ok"), ("stays", "none"), ("book 1 0 1", "0"))

    def test_a_house_that_is_none_leaves_the_first_one(self):
        desk = desk_with("house 1 2", "book 1 0 2")
        for line in ("house", "house 9", "house 1 1 1 1 1 1", "house 1 0"):
            self.refused(desk, line, NoLine)
        self.says(desk, ("stays", "0 1 0 2"))

    def test_book(self):
        desk = desk_with("house 1 2")
        self.says(desk, ("book 1 0 2", "0"), ("book 1 20 8", "1"), ("book 2 0 2", "2"))
        self.refused(desk, "book 1 1 1", NotNow)
        self.refused(desk, "book 3 5 1", NotNow)
        for line in ("book 0 0 1", "book 4 0 1", "book 1 21 1", "book 1 0 0", "book 1 0 9", "book 1 0 " + NINES):
            self.refused(desk, line, NoStay)
        self.says(desk, ("stays", "0 1 0 2 | 1 1 20 8 | 2 2 0 2"))

    def test_a_ninth_stay(self):
        desk = desk_with("house 1", *[f"book 1 {at} 1" for at in range(8)])
        self.refused(desk, "book 1 20 1", NotNow)
        self.refused(desk, "book 9 20 1", NoStay)
        self.says(desk, ("over 1 20 1", "fits"), ("over 1 7 1", "7 1 2 1"), ("over 2 7 8", "7 1 2 1"))
        self.says(desk, ("over 2 9 1", "9 2 1 0"), ("cancel 4", "ok"), ("book 1 20 1", "8"), ("cancel 8", "ok"))
        self.says(desk, ("book 1 4 1", "9"))

    def test_cancel(self):
        desk = desk_with("house 1 2", "book 1 0 2", "book 2 1 3")
        self.refused(desk, "cancel 2", NoNumber)
        self.refused(desk, "cancel " + NINES, NoNumber)
        self.says(desk, ("cancel 0", "ok"), ("stays", "1 2 1 3"), ("plan", "1"))
        self.refused(desk, "cancel 0", NoNumber)
        self.says(desk, ("cancel 1", "ok"), ("stays", "none"), ("plan", "none"), ("undo", "ok"), ("stays", "1 2 1 3"))

    def test_put(self):
        desk = desk_with("house 1 2 3", "book 1 0 2", "book 2 0 2")
        self.says(desk, ("plan", "0 1"), ("put 0 2", "ok"), ("plan", "2 1"), ("put 0 2", "ok"), ("put 0 0", "ok"))
        self.says(desk, ("put 0 1", "ok"), ("plan", "1 2"))
        self.refused(desk, "put 1 1", NotNow)
        self.refused(desk, "put 1 0", NoRooms)
        self.refused(desk, "put 1 3", NoRooms)
        self.refused(desk, "put 1 " + NINES, NoRooms)
        self.refused(desk, "put 2 0", NoNumber)
        self.refused(desk, "put 2 9", NoNumber)

    def test_undo(self):
        desk = desk_with("house 1 2", "book 1 0 2", "put 0 1", "cancel 0")
        self.says(desk, ("undo", "ok"), ("plan", "1"), ("undo", "ok"), ("plan", "0"), ("undo", "ok"), ("plan", "none"))
        self.refused(desk, "undo", NoDeed)

    def test_a_plan_that_needs_moves(self):
        books = [f"book {kind} {first} {nights}" for kind, first, nights in MOVE_STAYS]
        desk = desk_with("house 1 2", *books)
        self.says(desk, ("plan", "moves 1"), ("cancel 2", "ok"), ("plan", "0 1 1"), ("undo", "ok"), ("plan", "moves 1"))

    def test_cancelled_stays_need_no_moves(self):
        books = [f"book {kind} {first} {nights}" for kind, first, nights in MOVE_STAYS]
        later = [f"book {kind} {first + 3} {nights}" for kind, first, nights in MOVE_STAYS]
        desk = desk_with("house 1 2", *books, *later)
        self.says(desk, ("plan", "moves 2"), ("cancel 0", "ok"), ("plan", "moves 1"), ("cancel 4", "ok"))
        self.says(desk, ("plan", "1 0 1 1 0 1"))

    def test_moves_whatever_is_put(self):
        # It is put in the only room for the next one; without that nobody would have to move.
        desk = desk_with("house 1 2", "book 1 0 1", "put 0 1", "book 2 0 1")
        self.says(desk, ("plan", "moves 0"), ("put 0 0", "ok"), ("plan", "0 1"))

    def test_left(self):
        desk = desk_with("house 1 2 3", "book 1 0 2", "book 2 1 2")
        self.says(desk, ("left 0 1", "2"), ("left 1 1", "1"), ("left 1 3", "1"), ("left 40 3", "1"), ("left 40 1", "3"))
        for line in ("left 41 1", "left 41 0", "left 41 9", f"left {NINES} 1"):
            self.refused(desk, line, NoNight)
        for line in ("left 40 0", "left 0 4", f"left 0 {NINES}"):
            self.refused(desk, line, NoKind)

    def test_over(self):
        desk = desk_with("house 1 2", "book 1 3 2", "book 1 4 3")
        self.says(desk, ("over 1 3 1", "fits"), ("over 1 3 2", "4 1 3 2"), ("over 1 5 1", "fits"))
        self.says(desk, ("over 3 3 1", "3 3 1 0"), ("over 3 4 1", "4 1 3 2"))
        self.says(desk, ("over 2 0 8", "4 1 3 2"), ("over 1 20 8", "fits"), ("cancel 0", "ok"), ("over 2 0 8", "fits"))
        for line in ("over 0 0 1", "over 4 0 1", "over 1 21 1", "over 1 0 0", "over 1 0 9", "over 1 0 " + NINES):
            self.refused(desk, line, NoStay)
        self.says(desk, ("stays", "1 1 4 3"))

    def test_over_changes_nothing(self):
        desk = desk_with("house 1 2")
        self.says(desk, ("over 1 0 1", "fits"), ("over 1 0 1", "fits"), ("over 1 0 1", "fits"), ("stays", "none"))
        self.refused(desk, "undo", NoDeed)

    def test_eight_stays(self):
        books = [f"book {kind} {first} {nights}" for kind, first, nights in ALL_MEET[:5]]
        desk = desk_with("house 3 3 3 3 3", *books, "book 1 0 1", "book 2 0 1", "book 3 0 1")
        told = "0 1 20 8 | 1 2 20 7 | 2 3 19 8 | 3 1 15 8 | 4 2 18 5 | 5 1 0 1 | 6 2 0 1 | 7 3 0 1"
        self.says(desk, ("stays", told), ("plan", "0 1 2 3 4 0 1 2"), ("over 1 20 1", "20 1 6 5"), ("left 20 1", "0"))

    def test_desks_go_on_alone(self):
        one, other = desk_with("house 1 2"), desk_with("house 1 2")
        self.says(one, ("book 1 0 2", "0"))
        self.says(other, ("stays", "none"), ("book 2 0 2", "0"))
        self.says(one, ("stays", "0 1 0 2"))
        self.refused(Desk(), "stays", NoHouse)

    def test_the_same_asked_again(self):
        desk = desk_with("house 1 2", "book 1 0 2", "book 2 1 3")
        self.assertEqual(heard(desk), heard(desk))


def read_numbers(line):
    return tuple(int(word) for word in line.split(" ")[1:])


def answer_due(inn, line):
    """What the inn and the functions tell, as the desk's answer, or the class that is due."""
    word, numbers = line.split(" ")[0], read_numbers(line)
    try:
        if word == "book":
            return str(inn.book(numbers))
        if word in ("cancel", "put", "undo"):
            getattr(inn, word)(*numbers)
            return "ok"
        if word == "left":
            return str(inn.left(*numbers))
    except ValueError as error:
        return type(error)
    stays = tuple(stay for number, stay in inn.stays())
    if word == "stays":
        return " | ".join(" ".join(map(str, (number, *stay))) for number, stay in inn.stays()) or "none"
    if word == "over":
        if not is_stay(numbers):
            return NoStay
        told = fits(inn.house, (*stays, numbers))
        return "fits" if told == ("fits",) else " ".join(map(str, told[1:]))
    if not stays:
        return "none"
    if inn.plan() is None:
        return f"moves {least_moves(inn.house, stays)[0]}"
    return " ".join(map(str, inn.plan()))


def some_line(chance):
    word = chance.choice(("book",) * 5 + ("put",) * 4 + ("cancel", "undo", "stays", "left", "over", "over"))
    stay = f"{chance.choice((1,) * 8 + (2,) * 8 + (3, 4))} {chance.randint(0, 9)} {chance.choice((1, 2, 3) * 6 + (9,))}"
    behind = {
        "book": stay, "over": stay, "cancel": str(chance.randint(0, 9)),
        "left": chance.choice(("0 1", "3 2", "41 9", "4 0")), "put": f"{chance.randint(0, 7)} {chance.randint(0, 3)}",
    }
    return f"{word} {behind[word]}" if word in behind else word


class TestGoingOn(DeskAsking):
    def test_it_tells_what_the_inn_and_the_functions_tell(self):
        chance = random.Random(121)
        seen = set()
        for step in range(40):
            house = tuple(chance.choice((1, 1, 2, 2, 3)) for room in range(chance.randint(1, 4)))
            self.assertTrue(is_house(house))
            desk, inn = desk_with("house " + " ".join(map(str, house))), Inn(house)
            for deed in range(80):
                line = "plan" if deed % 2 else some_line(chance)
                # Eight kept and one asked of with `over` are more than the functions take.
                if line.startswith("over") and len(inn.stays()) == 8:
                    continue
                due = answer_due(inn, line)
                if isinstance(due, type):
                    self.refused(desk, line, due)
                    seen.add((line.split(" ")[0], due))
                else:
                    self.says(desk, (line, due))
                    seen.add((line.split(" ")[0], due.split(" ")[0] if due[:1].isalpha() else "numbers"))
        self.assertTrue({
            ("plan", "moves"), ("plan", "none"), ("plan", "numbers"), ("over", "fits"), ("over", "numbers"),
            ("over", NoStay), ("book", NotNow), ("book", NoStay), ("put", NotNow), ("put", NoRooms),
            ("put", NoNumber), ("undo", "ok"), ("left", NoNight), ("left", NoKind), ("stays", "none"),
        } <= seen, seen)


if __name__ == "__main__":
    unittest.main()
