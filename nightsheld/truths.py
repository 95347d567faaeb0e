"""Late truths: what is known on a day, and the rows that are told anew, night by night."""

from nightsheld.bills import are_prices, is_rule, nights_cost
from nightsheld.days import is_day, need_day
from nightsheld.errors import NoBook, NoTold
from nightsheld.houses import LAST_NIGHT, is_stay
from nightsheld.wholes import is_whole

WORDS = ("stay", "prices", "rule")
MOST_TRUTHS = 10


def is_told_by(word, thing):
    """Whether it is a thing that the word can tell, of anything."""
    if word == "stay":
        return is_stay(thing)
    if word == "prices":
        return are_prices(thing)
    return word == "rule" and is_rule(thing)


def is_truth(thing):
    """Whether it is a truth, of anything: a tuple (day, word, thing)."""
    if not isinstance(thing, tuple) or len(thing) != 3:
        return False
    day, word, told = thing
    return is_day(day) and is_told_by(word, told)


def is_book(thing):
    """Whether it is a book, of anything."""
    if not isinstance(thing, tuple) or not len(WORDS) <= len(thing) <= MOST_TRUTHS:
        return False
    if not all([is_truth(truth) for truth in thing]):
        return False
    days = [day for day, word, told in thing]
    words = [word for day, word, told in thing]
    first = len(WORDS)
    return days == sorted(days) and days[:first] == [days[0]] * first and tuple(words[:first]) == WORDS


def need_book(book):
    """Refuse what is no book."""
    if not is_book(book):
        raise NoBook()


def known_by(book, day):
    """As known tells it, of what is known to be a book; of a day below 0 too."""
    last = {word: thing for told, word, thing in book if told <= day}
    # The first day tells all three, so that there are all of them or none.
    return tuple([last[word] for word in WORDS]) if last else None


def known(book, day):
    """(stay, prices, rule): what was last told of each up to the day; None ahead of the first day."""
    need_book(book)
    need_day(day)
    return known_by(book, day)


def coins_by(book, day):
    """For each night, from 0 on, its coins by what is known on the day."""
    coins = [0] * (LAST_NIGHT + 1)
    facts = known_by(book, day)
    if facts is not None:
        stay, prices, rule = facts
        for after, cost in enumerate(nights_cost(prices, rule, stay)):
            coins[stay[1] + after] = cost
    return coins


def rows_on(book, day):
    """The rows that are told on the day."""
    ahead = coins_by(book, day - 1)
    return [(day, night, now - ahead[night]) for night, now in enumerate(coins_by(book, day)) if now != ahead[night]]


def told_rows(book):
    """The tuple of told rows (day, night, coins): how much more a night's coins are than on the day ahead."""
    need_book(book)
    days = sorted({day for day, word, thing in book})
    return tuple([row for day in days for row in rows_on(book, day)])


def are_rows(thing):
    """Whether it is a tuple of tuples of three whole numbers, of anything."""
    if not isinstance(thing, tuple) or not all([isinstance(row, tuple) for row in thing]):
        return False
    return all([len(row) == 3 and all([is_whole(number) for number in row]) for row in thing])


def first_wrong(book, rows):
    """The number of the first row that isn't the told one that stands there; None where all are."""
    due = told_rows(book)
    if not are_rows(rows):
        raise NoTold()
    for number, (row, right) in enumerate(zip(rows, due)):
        if row != right:
            return number
    return None if len(rows) == len(due) else min(len(rows), len(due))
