"""Days: on which truths are told, and ahead of which groups hold."""

from nightsheld.errors import NoDay
from nightsheld.wholes import is_within

LAST_DAY = 99


def is_day(thing):
    """Whether it is a day, of anything."""
    return is_within(thing, 0, LAST_DAY)


def need_day(day):
    """Refuse what is no day."""
    if not is_day(day):
        raise NoDay()
