"""Groups: blocks of stays that are held up to a day, how many more could sleep, and the first day for a stay."""

from nightsheld.days import is_day, need_day
from nightsheld.errors import NoGroups
from nightsheld.fits import all_fit, more_on
from nightsheld.houses import is_stay, need_house, need_kind, need_night, need_stay, need_stays
from nightsheld.wholes import is_within

MOST_GROUPS = 4
MOST_MANY = 5


def is_group(thing):
    """Whether it is a group, of anything: a tuple (kind, first, nights, many, release)."""
    if not isinstance(thing, tuple) or len(thing) != 5:
        return False
    kind, first, nights, many, release = thing
    return is_stay((kind, first, nights)) and is_within(many, 1, MOST_MANY) and is_day(release)


def are_groups(thing):
    """Whether it is a tuple of groups, of anything."""
    if not isinstance(thing, tuple) or len(thing) > MOST_GROUPS:
        return False
    return all([is_group(group) for group in thing])


def need_groups(groups):
    """Refuse what is no groups."""
    if not are_groups(groups):
        raise NoGroups()


def held(groups, day):
    """The tuple of all stays that the groups hold on the day."""
    return tuple([
        (kind, first, nights)
        for kind, first, nights, many, release in groups if day < release
        for each in range(many)
    ])


def left_then(house, stays, groups, day, night, kind):
    """How many stays more of the kind could sleep on the night, by what the groups hold on the day."""
    need_house(house)
    need_stays(stays)
    need_groups(groups)
    need_day(day)
    need_night(night)
    need_kind(kind)
    return more_on(house, stays + held(groups, day), night, kind)


def first_day(house, stays, groups, stay):
    """The first day on which the stay, all stays and all that are held that day fit; None where there is none."""
    need_house(house)
    need_stays(stays)
    need_groups(groups)
    need_stay(stay)
    # What is held changes on the days of release alone.
    for day in sorted(set([0] + [group[4] for group in groups])):
        if all_fit(house, stays + (stay,) + held(groups, day)):
            return day
    return None
