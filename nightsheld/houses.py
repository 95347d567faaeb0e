"""The house and its stays: what they are, and who sleeps on a night."""

from nightsheld.errors import NoNight, NoStays
from nightsheld.wholes import is_within

MOST_KIND = 3
MOST_ROOMS = 5
MOST_STAYS = 8
LAST_FIRST = 20
MOST_NIGHTS = 8
LAST_NIGHT = 40


def is_kind(thing):
    """Whether it is a kind of room, of anything."""
    return is_within(thing, 1, MOST_KIND)


def is_night(thing):
    """Whether it is a night, of anything."""
    return is_within(thing, 0, LAST_NIGHT)


def is_house(thing):
    """Whether it is a house, of anything: a tuple with the kind of each room."""
    if not isinstance(thing, tuple) or not 1 <= len(thing) <= MOST_ROOMS:
        return False
    return all([is_kind(room) for room in thing])


def is_stay(thing):
    """Whether it is a stay, of anything: a tuple (kind, first, nights)."""
    if not isinstance(thing, tuple) or len(thing) != 3:
        return False
    kind, first, nights = thing
    return is_kind(kind) and is_within(first, 0, LAST_FIRST) and is_within(nights, 1, MOST_NIGHTS)


def are_stays(thing):
    """Whether it is a tuple of stays, of anything."""
    if not isinstance(thing, tuple) or len(thing) > MOST_STAYS:
        return False
    return all([is_stay(stay) for stay in thing])


def need_stays(stays):
    """Refuse what is no stays."""
    if not are_stays(stays):
        raise NoStays()


def need_night(night):
    """Refuse what is no night."""
    if not is_night(night):
        raise NoNight()


def sleeps(stay, night):
    """Whether the stay sleeps on the night."""
    kind, first, nights = stay
    return first <= night < first + nights


def sleeping(stays, night):
    """The rising tuple of the numbers of the stays that sleep on the night."""
    need_stays(stays)
    need_night(night)
    return tuple([number for number, stay in enumerate(stays) if sleeps(stay, night)])
