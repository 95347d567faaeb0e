"""Plans by nights: the fewest moves, whether something is such a plan, and how many moves it has."""

from nightsheld.errors import NoPlan
from nightsheld.houses import may_sleep, need_house, need_stays, rooms_for, sleepers


def is_row(house, stay, thing):
    """Whether it is a tuple with a room for each night of the stay, one that it may sleep in, of anything."""
    if not isinstance(thing, tuple) or len(thing) != stay[2]:
        return False
    return all([may_sleep(house, stay, room) for room in thing])


def is_by_nights(house, stays, thing):
    """As is_nightly tells it, of a house and stays that are known to be such."""
    if not isinstance(thing, tuple) or len(thing) != len(stays):
        return False
    if not all([is_row(house, stay, row) for stay, row in zip(stays, thing)]):
        return False
    slept = [
        (first + after, room)
        for (kind, first, nights), row in zip(stays, thing)
        for after, room in enumerate(row)
    ]
    return len(set(slept)) == len(slept)


def is_nightly(house, stays, thing):
    """Whether it is a plan by nights, of anything."""
    need_house(house)
    need_stays(stays)
    return is_by_nights(house, stays, thing)


def differing(row, other):
    """At how many places two rows of rooms differ."""
    return len([room for room, instead in zip(row, other) if room != instead])


def moves_of(house, stays, rooms):
    """The moves of a plan by nights."""
    if not is_nightly(house, stays, rooms):
        raise NoPlan()
    return sum([differing(row, row[1:]) for row in rooms])


def turns(stays):
    """The rising list of the nights on which others sleep than on the night ahead."""
    return sorted({night for kind, first, nights in stays for night in (first, first + nights)})


def seatings(house, stays, numbers):
    """Each tuple that gives the numbered stays unlike rooms, each one that it may sleep in."""
    rows = [()]
    for number in numbers:
        rooms = rooms_for(house, stays[number])
        rows = [row + (room,) for row in rows for room in rooms if room not in row]
    return rows


def rooms_of(numbers, seating, asked):
    """The rooms that the seating of the numbered stays gives to those asked for."""
    return tuple([room for number, room in zip(numbers, seating) if number in asked])


def cheapest_by(reached, numbers, asked):
    """For each tuple of rooms of the stays asked for the least (moves, path) with which it is reached."""
    best = {}
    for seating, cost in reached.items():
        rooms = rooms_of(numbers, seating, asked)
        best[rooms] = min(best.get(rooms, cost), cost)
    return best


def next_reached(reached, ahead, house, stays, numbers):
    """For each seating of the numbered stays the least (moves, path) with which it is reached from those ahead."""
    # Only who sleeps on both nights can move between them.
    both = [number for number in numbers if number in ahead]
    best = cheapest_by(reached, ahead, both)
    grown = {}
    for seating in seatings(house, stays, numbers):
        rooms = rooms_of(numbers, seating, both)
        moves, path = min([(cost + differing(was, rooms), way) for was, (cost, way) in best.items()])
        grown[seating] = (moves, path + (seating,))
    return grown


def spread_out(stays, path):
    """The plan by nights in which each seating of the path holds from its turn to the next one."""
    nights = turns(stays)
    rows = [() for stay in stays]
    for begin, end, seating in zip(nights, nights[1:], path):
        for number, room in zip(sleepers(stays, begin), seating):
            rows[number] += (room,) * (end - begin)
    return tuple(rows)


def least_moves(house, stays):
    """(moves, rooms): the fewest moves of any plan by nights, and some such plan; None where there is none."""
    need_house(house)
    need_stays(stays)
    # Between two turns nobody need move: who would could as well move at the next turn, or not at all.
    reached = {(): (0, ())}
    ahead = ()
    for night in turns(stays):
        numbers = sleepers(stays, night)
        reached = next_reached(reached, ahead, house, stays, numbers)
        ahead = numbers
        if not reached:
            return None
    # On the last turn nobody sleeps any more.
    moves, path = reached[()]
    return moves, spread_out(stays, path)
