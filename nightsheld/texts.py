"""Texts of a house and its stays, line by line; and what all lines have in common: words and numbers in figures."""

from nightsheld.errors import NoText
from nightsheld.houses import are_stays, is_house, need_house, need_stays

FIGURES = "0123456789"
MOST_FIGURES = 12


def is_number(word):
    """Whether the word writes a number in figures, without a nought ahead but 0 itself."""
    if not 1 <= len(word) <= MOST_FIGURES or not all([sign in FIGURES for sign in word]):
        return False
    return word == "0" or word[0] != "0"


def read_line(line):
    """(word, numbers): the first word of a line, and the tuple of numbers behind it, None where they are none."""
    words = line.split(" ")
    if not all([is_number(word) for word in words[1:]]):
        return words[0], None
    return words[0], tuple([int(word) for word in words[1:]])


def write_numbers(numbers):
    """The numbers with one blank between."""
    return " ".join([str(number) for number in numbers])


def house_text(house, stays):
    """The text of the house and the stays."""
    need_house(house)
    need_stays(stays)
    lines = [f"rooms {write_numbers(house)}\n"] + [f"stay {write_numbers(stay)}\n" for stay in stays]
    return "".join(lines)


def is_of_form(at, word, numbers):
    """Whether what was read of a line, at this place from 0 on, has the form of such a line."""
    if numbers is None:
        return False
    if at == 0:
        return word == "rooms" and len(numbers) >= 1
    return word == "stay" and len(numbers) == 3


def read_house(text):
    """(house, stays): what the text writes."""
    if not isinstance(text, str) or not text.endswith("\n"):
        raise NoText(0)
    lines = [read_line(line) for line in text[:-1].split("\n")]
    for at, (word, numbers) in enumerate(lines):
        if not is_of_form(at, word, numbers):
            raise NoText(at + 1)
    house = lines[0][1]
    stays = tuple([numbers for word, numbers in lines[1:]])
    if not is_house(house) or not are_stays(stays):
        raise NoText(len(lines) + 1)
    return house, stays
