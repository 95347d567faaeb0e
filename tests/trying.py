"""Answers that several tests compare with, found by trying all rooms."""

import itertools


def asleep(stays, night):
    return [kind for kind, first, nights in stays if night in range(first, first + nights)]


def can_sleep(house, kinds):
    """Whether stays of these kinds can have unlike rooms: by trying them all."""
    for rooms in itertools.permutations(house, len(kinds)):
        if all(room >= kind for room, kind in zip(rooms, kinds)):
            return True
    return False


def fits_due(house, stays):
    for night in range(41):
        kinds = asleep(stays, night)
        if not can_sleep(house, kinds):
            for kind in (1, 2, 3):
                many = sum(1 for each in kinds if each >= kind)
                rooms = sum(1 for each in house if each >= kind)
                if many > rooms:
                    return "over", night, kind, many, rooms
    return ("fits",)


def left_due(house, stays, night, kind):
    kinds = asleep(stays, night)
    more = 0
    while can_sleep(house, kinds + [kind] * (more + 1)):
        more += 1
    return more


def meet(one, other):
    return one[1] < other[1] + other[2] and other[1] < one[1] + one[2]


def all_plans(house, stays):
    """Each plan, the least first: by trying them all."""
    found = []
    for rooms in itertools.product(range(len(house)), repeat=len(stays)):
        if all(house[room] >= stay[0] for room, stay in zip(rooms, stays)):
            pairs = itertools.combinations(range(len(stays)), 2)
            if not any(rooms[one] == rooms[other] and meet(stays[one], stays[other]) for one, other in pairs):
                found.append(rooms)
    return found
