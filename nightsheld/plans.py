"""Rooms for whole stays.

Told are the least plan, or the fewest stays that have none; how many plans there are; and the one nearest to rooms
that were told already.
"""

from nightsheld.errors import NoRooms
from nightsheld.houses import MOST_ROOMS, is_room, need_house, need_stays, rooms_for
from nightsheld.moves import is_by_nights
from nightsheld.wholes import is_within


def choices_for(house, stays):
    """For each stay the rooms in which it may sleep."""
    return [rooms_for(house, stay) for stay in stays]


def taken(ends, room, first, nights):
    """For each room the night from which on it is free, with so many nights from first on taken in one of them."""
    # Ends that are past are all one from now on; as 0 they make one case of many.
    past = [end if end > first else 0 for end in ends]
    past[room] = first + nights
    return tuple(past)


def with_stay(tally, stay, choice, told):
    """The tally, as in tally_of, with one stay more that begins no earlier than those in it."""
    kind, first, nights = stay
    grown = {}
    for (ends, changed), many in tally.items():
        for room in choice:
            if ends[room] <= first:
                others = changed if told is None or told == room else changed + 1
                case = (taken(ends, room, first, nights), others)
                grown[case] = grown.get(case, 0) + many
    return grown


def tally_of(stays, choices, told):
    """How many plans there are, each stay's room one of its choices, by the cases (ends, changed).

    ends are the nights from which on the rooms are free, changed is how many stays are otherwise than told.
    """
    tally = {((0,) * MOST_ROOMS, 0): 1}
    for number in sorted(range(len(stays)), key=lambda at: stays[at][1]):
        tally = with_stay(tally, stays[number], choices[number], told[number])
    return tally


def fewest_changed(stays, choices, told):
    """How many stays of some plan are otherwise than told, the fewest; None where there is no plan."""
    tally = tally_of(stays, choices, told)
    return min([changed for ends, changed in tally], default=None)


def nearest_of(stays, choices, told):
    """As nearest tells it, each stay's room one of its choices."""
    fewest = fewest_changed(stays, choices, told)
    if fewest is None:
        return None
    kept = list(choices)
    for number, choice in enumerate(choices):
        for room in choice:
            kept[number] = [room]
            if fewest_changed(stays, kept, told) == fewest:
                break
    return fewest, tuple([choice[0] for choice in kept])


def least_plan(stays, choices):
    """The least plan in which each stay's room is one of its choices; None where there is none."""
    told = nearest_of(stays, choices, [None] * len(stays))
    return None if told is None else told[1]


def count_plans(house, stays):
    """As how_many tells it, of a house and stays that are known to be such."""
    return sum(list(tally_of(stays, choices_for(house, stays), [None] * len(stays)).values()))


def is_barred(house, stays, lot):
    """Whether the numbered stays have no plan if they are alone."""
    return count_plans(house, [stays[number] for number in lot]) == 0


def lots(many, size):
    """The rising list of all rising tuples of so many numbers as size tells, each below many."""
    rows = [()]
    for step in range(size):
        rows = [row + (number,) for row in rows for number in range(many) if not row or number > row[-1]]
    return rows


def least_barred(house, stays):
    """The fewest stays, of as few the least, that have no plan if they are alone; None where there are none."""
    for size in range(1, len(stays) + 1):
        for lot in lots(len(stays), size):
            if is_barred(house, stays, lot):
                return lot
    return None


def plan(house, stays):
    """("plan", rooms), the least plan, or ("none", lot), the fewest stays that have none."""
    need_house(house)
    need_stays(stays)
    rooms = least_plan(stays, choices_for(house, stays))
    if rooms is None:
        return "none", least_barred(house, stays)
    return "plan", rooms


def is_plan(house, stays, thing):
    """Whether it is a plan, of anything."""
    if not isinstance(thing, tuple) or len(thing) != len(stays):
        return False
    # A plan is a plan by nights in which each stay has one room on all of its nights.
    return is_by_nights(house, stays, tuple([(room,) * stay[2] for stay, room in zip(stays, thing)]))


def is_lot(stays, thing):
    """Whether it is a rising tuple of numbers of stays, of anything."""
    if not isinstance(thing, tuple) or not all([is_within(number, 0, len(stays) - 1) for number in thing]):
        return False
    return all([number < behind for number, behind in zip(thing, thing[1:])])


def shows_plan(house, stays, thing):
    """Whether it shows a plan, or stays that have none, of anything."""
    need_house(house)
    need_stays(stays)
    if not isinstance(thing, tuple) or len(thing) != 2:
        return False
    word, shown = thing
    if word == "plan":
        return is_plan(house, stays, shown)
    return word == "none" and is_lot(stays, shown) and is_barred(house, stays, shown)


def how_many(house, stays):
    """How many plans there are."""
    need_house(house)
    need_stays(stays)
    return count_plans(house, stays)


def are_rooms(house, stays, thing):
    """Whether it is a tuple with None or a room's number for each stay, of anything."""
    if not isinstance(thing, tuple) or len(thing) != len(stays):
        return False
    return all([room is None or is_room(house, room) for room in thing])


def nearest(house, stays, told):
    """(many, rooms): the plan with the fewest stays otherwise than told, and how many; None where there is no plan."""
    need_house(house)
    need_stays(stays)
    if not are_rooms(house, stays, told):
        raise NoRooms()
    return nearest_of(stays, choices_for(house, stays), told)
