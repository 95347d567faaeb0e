"""By nights: whether the stays fit, how many more could sleep on a night, and where a stay more could begin."""

from nightsheld.houses import (
    LAST_FIRST,
    MOST_KIND,
    need_house,
    need_kind,
    need_night,
    need_nights,
    need_stays,
    sleepers,
)


def kinds_asleep(stays, night):
    """The kinds of the stays that sleep on the night."""
    return [stays[number][0] for number in sleepers(stays, night)]


def so_great(kinds, least):
    """How many of the kinds are the least one or greater ones."""
    return len([kind for kind in kinds if kind >= least])


def over_on(house, stays, night):
    """("over", night, kind, many, rooms) of this night, None where those that sleep then can have rooms."""
    kinds = kinds_asleep(stays, night)
    for kind in range(1, MOST_KIND + 1):
        many = so_great(kinds, kind)
        rooms = so_great(house, kind)
        if many > rooms:
            return "over", night, kind, many, rooms
    return None


def how_they_fit(house, stays):
    """As fits tells it, of however many stays."""
    # More sleep than on the night ahead only where a stay begins, so the first night over is such a one.
    for night in sorted({first for kind, first, nights in stays}):
        told = over_on(house, stays, night)
        if told is not None:
            return told
    return ("fits",)


def all_fit(house, stays):
    """Whether however many stays fit."""
    return how_they_fit(house, stays) == ("fits",)


def more_on(house, stays, night, kind):
    """As left tells it, of however many stays."""
    if over_on(house, stays, night) is not None:
        return 0
    kinds = kinds_asleep(stays, night)
    # A stay more of this kind counts among those of each lesser kind too; the fewest rooms left there bind.
    return min([so_great(house, least) - so_great(kinds, least) for least in range(1, kind + 1)])


def fits(house, stays):
    """("fits",), or ("over", night, kind, many, rooms): the night and the kind by which the stays don't fit."""
    need_house(house)
    need_stays(stays)
    return how_they_fit(house, stays)


def left(house, stays, night, kind):
    """How many stays more of the kind could sleep on the night."""
    need_house(house)
    need_stays(stays)
    need_night(night)
    need_kind(kind)
    return more_on(house, stays, night, kind)


def begins(house, stays, kind, nights):
    """The rising tuple of the nights at which a stay more of the kind and so many nights could begin."""
    need_house(house)
    need_stays(stays)
    need_kind(kind)
    need_nights(nights)
    return tuple([
        first for first in range(LAST_FIRST + 1)
        if all_fit(house, stays + ((kind, first, nights),))
    ])
