"""The house and its stays: what they are, where they may sleep, and who sleeps on a night."""

from nightsheld.errors import NoHouse, NoKind, NoNight, NoNights, NoStay, NoStays
from nightsheld.wholes import is_within

MOST_KIND = 3
MOST_ROOMS = 5
MOST_STAYS = 8
LAST_FIRST = 20
MOST_NIGHTS = 8
LAST_NIGHT = 40


def is_kind(thing):
    """Whether it is a kind of room, of anything."""
    return is_within(thing, 1, MOST_KIND)


def is_night(thing):
    """Whether it is a night, of anything."""
    return is_within(thing, 0, LAST_NIGHT)


def is_nights(thing):
    """Whether it is a number of nights, of anything."""
    return is_within(thing, 1, MOST_NIGHTS)


def is_house(thing):
    """Whether it is a house, of anything: a tuple with the kind of each room."""
    if not isinstance(thing, tuple) or not 1 <= len(thing) <= MOST_ROOMS:
        return False
    return all([is_kind(room) for room in thing])


def is_stay(thing):
    """Whether it is a stay, of anything: a tuple (kind, first, nights)."""
    if not isinstance(thing, tuple) or len(thing) != 3:
        return False
    kind, first, nights = thing
    return is_kind(kind) and is_within(first, 0, LAST_FIRST) and is_nights(nights)


def are_stays(thing):
    """Whether it is a tuple of stays, of anything."""
    if not isinstance(thing, tuple) or len(thing) > MOST_STAYS:
        return False
    return all([is_stay(stay) for stay in thing])


def need_house(house):
    """Refuse what is no house."""
    if not is_house(house):
        raise NoHouse()


def need_stay(stay):
    """Refuse what is no stay."""
    if not is_stay(stay):
        raise NoStay()


def need_stays(stays):
    """Refuse what is no stays."""
    if not are_stays(stays):
        raise NoStays()


def need_night(night):
    """Refuse what is no night."""
    if not is_night(night):
        raise NoNight()


def need_kind(kind):
    """Refuse what is no kind of room."""
    if not is_kind(kind):
        raise NoKind()


def need_nights(nights):
    """Refuse what is no number of nights."""
    if not is_nights(nights):
        raise NoNights()


def is_room(house, thing):
    """Whether it is the number of a room of the house, of anything."""
    return is_within(thing, 0, len(house) - 1)


def may_sleep(house, stay, thing):
    """Whether it is the number of a room in which the stay may sleep, of anything."""
    return is_room(house, thing) and house[thing] >= stay[0]


def rooms_for(house, stay):
    """The rising list of the numbers of the rooms in which the stay may sleep."""
    return [room for room in range(len(house)) if may_sleep(house, stay, room)]


def sleeps(stay, night):
    """Whether the stay sleeps on the night."""
    kind, first, nights = stay
    return first <= night < first + nights


def sleepers(stays, night):
    """As sleeping tells it, of however many stays."""
    return tuple([number for number, stay in enumerate(stays) if sleeps(stay, night)])


def sleeping(stays, night):
    """The rising tuple of the numbers of the stays that sleep on the night."""
    need_stays(stays)
    need_night(night)
    return sleepers(stays, night)
