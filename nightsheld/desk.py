"""A desk: it keeps an inn, and answers lines with lines."""

from nightsheld.errors import NoHouse, NoLine
from nightsheld.fits import how_they_fit
from nightsheld.houses import is_house, need_stay
from nightsheld.inn import Inn, standing_stays
from nightsheld.moves import least_moves
from nightsheld.texts import read_line, write_numbers


def say_book(inn, numbers):
    """Book a stay: its number."""
    return str(inn.book(numbers))


def say_cancel(inn, numbers):
    """Cancel a stay."""
    inn.cancel(numbers[0])
    return "ok"


def say_put(inn, numbers):
    """Put a stay in a room."""
    inn.put(numbers[0], numbers[1])
    return "ok"


def say_undo(inn, numbers):
    """Undo the last deed."""
    inn.undo()
    return "ok"


def say_stays(inn, numbers):
    """Each stay's number, kind, first and nights, or that there is none."""
    rows = [write_numbers((number,) + stay) for number, stay in inn.stays()]
    return " | ".join(rows) if rows else "none"


def say_plan(inn, numbers):
    """The rooms of the plan, or that no stay is kept; where there is no plan the fewest moves."""
    rooms = inn.plan()
    if rooms is None:
        # All that an inn keeps fits by nights, so that there always are fewest moves.
        moves, nightly = least_moves(inn.house, standing_stays(inn.kept))
        return f"moves {moves}"
    return write_numbers(rooms) if rooms else "none"


def say_left(inn, numbers):
    """How many stays more could sleep on a night."""
    return str(inn.left(numbers[0], numbers[1]))


def say_over(inn, numbers):
    """That all stays and one more fit, or the night, kind, many and rooms by which they don't."""
    need_stay(numbers)
    told = how_they_fit(inn.house, standing_stays(inn.kept) + (numbers,))
    return "fits" if told == ("fits",) else write_numbers(told[1:])


ACTIONS = {
    "book": say_book,
    "cancel": say_cancel,
    "put": say_put,
    "undo": say_undo,
    "stays": say_stays,
    "plan": say_plan,
    "left": say_left,
    "over": say_over,
}

# How many numbers stand behind each word.
BEHIND = {"book": 3, "cancel": 1, "put": 2, "undo": 0, "stays": 0, "plan": 0, "left": 2, "over": 3}


def is_said(word, numbers):
    """Whether what was read of a line is a line for a desk."""
    if numbers is None:
        return False
    if word == "house":
        return is_house(numbers)
    return BEHIND.get(word) == len(numbers)


def read_said(line):
    """(word, numbers) of a line for a desk; refused is what is none."""
    if not isinstance(line, str):
        raise NoLine()
    word, numbers = read_line(line)
    if not is_said(word, numbers):
        raise NoLine()
    return word, numbers


class Desk:
    """Keeps an inn, at first none."""

    def __init__(self):
        self.inn = None

    def say(self, line):
        """Do what the line tells, and answer."""
        word, numbers = read_said(line)
        if word == "house":
            self.inn = Inn(numbers)
            return "ok"
        # An inn without deeds has the length 0, so that its truth wouldn't tell whether there is one.
        if self.inn is None:
            raise NoHouse()
        action = ACTIONS[word]
        return action(self.inn, numbers)
