"""Who is walked where more guests come than there are rooms, and what they are paid."""

from nightsheld.chances import need_coins, need_number
from nightsheld.errors import NoGuests
from nightsheld.wholes import is_within

MOST_GUESTS = 12
MOST_RANK = 3
LAST_BOOKED = 999


def is_guest(thing):
    """Whether it is a guest, of anything: a tuple (rank, booked)."""
    if not isinstance(thing, tuple) or len(thing) != 2:
        return False
    rank, booked = thing
    return is_within(rank, 0, MOST_RANK) and is_within(booked, 0, LAST_BOOKED)


def are_guests(thing):
    """Whether it is a tuple of guests, of anything."""
    if not isinstance(thing, tuple) or len(thing) > MOST_GUESTS:
        return False
    return all([is_guest(guest) for guest in thing])


def need_guests(guests):
    """Refuse what is no guests."""
    if not are_guests(guests):
        raise NoGuests()


def walked_of(guests, rooms):
    """As walked tells it, of what is known to be guests and rooms."""
    # The lowest rank first; of one rank the greatest booked, of these the last ones.
    order = sorted([(rank, -booked, -number) for number, (rank, booked) in enumerate(guests)])
    many = max(0, len(guests) - rooms)
    return tuple(sorted([-last for rank, late, last in order[:many]]))


def walked(guests, rooms):
    """The rising tuple of the numbers of the guests that are walked."""
    need_guests(guests)
    need_number(rooms)
    return walked_of(guests, rooms)


def paid_out(guests, rooms, price):
    """The tuple with what each guest is paid."""
    need_guests(guests)
    need_number(rooms)
    need_coins(price)
    gone = walked_of(guests, rooms)
    return tuple([price * (rank + 1) if number in gone else 0 for number, (rank, booked) in enumerate(guests)])
