"""Point 120: the text of a house and its stays, and what a text writes."""

import random
import unittest

from nightsheld.errors import NoHouse, NoStays, NoText
from nightsheld.texts import house_text, read_house
from tests.asking import Asking
from tests.things import ALL_MEET, NO_HOUSES, NO_STAYS, NO_WHOLES, TEXTS, some_cases

ONE = "rooms 1\n"
TWO = "rooms 1 2\nstay 1 0 2\n"
NINES = "9" * 12


class TestHouseText(Asking):
    def due(self, house, stays, told):
        with self.subTest(house=house, stays=stays):
            self.assertEqual(self.answer(house_text, house=house, stays=stays), told)

    def test_one_room_and_no_stays(self):
        self.due((1,), (), "rooms 1\n")
        self.due((3,), (), "rooms 3\n")

    def test_five_rooms_and_eight_stays(self):
        told = (
            "rooms 1 2 3 2 1\nstay 1 20 8\nstay 2 20 7\nstay 3 19 8\nstay 1 15 8\nstay 2 18 5\nstay 3 20 1\n"
            "stay 1 17 4\nstay 2 13 8\n"
        )
        self.due((1, 2, 3, 2, 1), ALL_MEET, told)

    def test_a_nought(self):
        self.due((1, 2), ((1, 0, 2),), TWO)

    def test_stays_stand_in_their_order_be_they_twice(self):
        self.due((2,), ((2, 9, 1), (1, 3, 1), (2, 9, 1)), "rooms 2\nstay 2 9 1\nstay 1 3 1\nstay 2 9 1\n")

    def test_refusals(self):
        wrongs = {"house": (NoHouse, NO_HOUSES), "stays": (NoStays, NO_STAYS)}
        self.check_refused(house_text, (((1,), ()), ((1, 2, 3, 2, 1), ALL_MEET)), wrongs)


class TestReadHouse(Asking):
    def due(self, text, house, stays):
        with self.subTest(text=text):
            self.assertEqual(repr(self.answer(read_house, text=text)), repr((house, stays)))

    def refused(self, text, line):
        """Refused with the number of this line, by place and by name."""
        with self.subTest(text=text):
            self.assertIs(self.refusal(read_house, text=text), NoText)
            for way in (lambda: read_house(text), lambda: read_house(text=text)):
                with self.assertRaises(NoText) as caught:
                    way()
                self.assertEqual(repr(caught.exception.line), repr(line))

    def test_one_room_and_no_stays(self):
        self.due(ONE, (1,), ())

    def test_rooms_and_stays(self):
        self.due(TWO, (1, 2), ((1, 0, 2),))
        self.due("rooms 3 3 3 3 3\nstay 3 20 8\nstay 1 10 1\n", (3,) * 5, ((3, 20, 8), (1, 10, 1)))

    def test_what_is_told_of_each(self):
        self.due(house_text((1, 2, 3, 2, 1), ALL_MEET), (1, 2, 3, 2, 1), ALL_MEET)
        for house, stays in some_cases(random.Random(120), 150, 5, 8, 20, 8):
            self.due(house_text(house, stays), house, stays)

    def test_what_is_no_text(self):
        for thing in (*NO_WHOLES, 0, 1, ["rooms 1\n"], ("rooms 1\n",), {"rooms 1\n": 1}, ["rooms 1", ""], ((1,), ())):
            if not isinstance(thing, str):
                self.refused(thing, 0)

    def test_no_line_end_last(self):
        for text in ("", "rooms 1", "rooms 1 2\nstay 1 0 2", "rooms 1\n ", "\nrooms 1", "x", "rooms 9", "rooms 1\n\nx"):
            self.refused(text, 0)
        for text in TEXTS:
            if not text.endswith("\n"):
                self.refused(text, 0)

    def test_each_line_end_left_out(self):
        text = "rooms 1 2\nstay 1 0 2\nstay 2 0 2\n"
        self.refused("rooms 1 2stay 1 0 2\nstay 2 0 2\n", 1)
        self.refused("rooms 1 2\nstay 1 0 2stay 2 0 2\n", 2)
        self.refused(text[:-1], 0)
        # Two stays in one line are no line either.
        self.refused("rooms 1 2\nstay 1 0 2 stay 2 0 2\n", 2)

    def test_a_line_end_too_many(self):
        self.refused("\n", 1)
        self.refused("\n\n", 1)
        self.refused("\n" + TWO, 1)
        self.refused("rooms 1 2\n\nstay 1 0 2\n", 2)
        self.refused(TWO + "\n", 3)

    def test_a_blank_too_many_or_too_few(self):
        for line in (" rooms 1 2", "rooms  1 2", "rooms 1  2", "rooms 1 2 ", "rooms1 2", "rooms ", "rooms", " "):
            self.refused(f"{line}\nstay 1 0 2\n", 1)
        for line in (" stay 1 0 2", "stay  1 0 2", "stay 1 0  2", "stay 1 0 2 ", "stay1 0 2", "stay 10 2", "stay "):
            self.refused(f"rooms 1 2\n{line}\nstay 1 0 2\n", 2)

    def test_other_words(self):
        for word in ("room", "Rooms", "ROOMS", "rooms:", "house", "stay", "1", "", "-", "~"):
            self.refused(f"{word} 1 2\nstay 1 0 2\n", 1)
        for word in ("stays", "Stay", "STAY", "stay,", "book", "rooms", "1", "", "-"):
            self.refused(f"rooms 1 2\nstay 1 0 2\n{word} 1 0 2\n", 3)

    def test_rooms_stand_in_the_first_line_alone(self):
        self.refused("rooms 1 2\nrooms 1 2\n", 2)
        self.refused("rooms 1 2\nstay 1 0 2\nrooms 1 2 3\n", 3)
        self.refused("stay 1 0 2\n", 1)
        self.refused("stay 1 0 2\nrooms 1 2\n", 1)

    def test_stays_have_three_numbers(self):
        self.refused("rooms 1 2\nstay 1 0\n", 2)
        self.refused("rooms 1 2\nstay 1 0 2 3\n", 2)
        self.refused("rooms 1 2\nstay 1\n", 2)

    def test_what_is_no_number(self):
        for word in ("-1", "+1", "01", "00", "1.0", "1,", "1e0", "x", "1_0", "0x1", "", "(1)", "one", NINES + "9"):
            self.refused(f"rooms {word}\nstay 1 0 2\n", 1)
            self.refused(f"rooms 1 {word} 2\nstay 1 0 2\n", 1)
            for at in range(3):
                words = ["1", "0", "2"]
                words[at] = word
                self.refused("rooms 1 2\nstay 1 0 2\nstay " + " ".join(words) + "\n", 3)

    def test_a_nought_ahead(self):
        self.refused("rooms 01\n", 1)
        self.refused("rooms 1\nstay 1 00 1\n", 2)
        self.refused("rooms 1\nstay 1 01 1\n", 2)
        self.due("rooms 1\nstay 1 0 1\n", (1,), ((1, 0, 1),))
        self.due("rooms 1\nstay 1 10 1\n", (1,), ((1, 10, 1),))

    def test_twelve_figures_and_thirteen(self):
        self.refused(f"rooms {NINES}\n", 2)
        self.refused(f"rooms 1{NINES}\n", 1)
        self.refused("rooms 1\nstay 1 100000000000 1\n", 3)
        self.refused("rooms 1\nstay 1 1000000000000 1\n", 2)

    def test_the_first_line_that_is_none(self):
        self.refused("rooms 1\nstay 1 0 1\nx\nstay 1 0 1\ny\n", 3)
        self.refused("x\ny\n", 1)
        # A line behind those that write no house is told of ahead of that.
        self.refused("rooms 9\nstay 1 0 1\nx\n", 3)
        self.refused("rooms 1\nstay 9 9 9\nx\n", 3)

    def test_lines_of_the_form_that_write_no_house(self):
        self.refused("rooms 0\n", 2)
        self.refused("rooms 4\n", 2)
        self.refused("rooms 1 1 1 1 1 1\n", 2)
        self.refused("rooms 1 2 0\nstay 1 0 2\n", 3)
        self.due("rooms 1 1 1 1 1\n", (1,) * 5, ())

    def test_lines_of_the_form_that_write_no_stays(self):
        for line in ("stay 0 0 1", "stay 4 0 1", "stay 1 21 1", "stay 1 0 0", "stay 1 0 9"):
            self.refused(f"rooms 1\n{line}\n", 3)
            self.refused(f"rooms 1\n{line}\nstay 1 0 1\n", 4)
            self.refused(f"rooms 1\nstay 1 0 1\n{line}\n", 4)

    def test_eight_stays_and_nine(self):
        self.due("rooms 1\n" + "stay 1 0 1\n" * 8, (1,), ((1, 0, 1),) * 8)
        self.refused("rooms 1\n" + "stay 1 0 1\n" * 9, 11)
        self.refused("rooms 1\n" + "stay 1 0 1\n" * 80, 82)

    def test_one_sign_otherwise_left_out_twice_or_put_in(self):
        for text in (ONE, TWO, house_text((1, 2, 3), ((1, 10, 8), (3, 0, 1)))):
            for at in range(len(text)):
                for sign in ("", text[at] * 2, "0", "1", "9", " ", "\n", "s", "-", "~"):
                    other = text[:at] + sign + text[at + 1:]
                    with self.subTest(text=other):
                        try:
                            house, stays = read_house(other)
                        except NoText as error:
                            self.assertTrue(0 <= error.line <= other.count("\n") + 1)
                            self.assertEqual(error.line == 0, other[-1:] != "\n")
                        else:
                            self.assertEqual(house_text(house, stays), other)


if __name__ == "__main__":
    unittest.main()
