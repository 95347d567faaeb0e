"""An inn: a house that keeps stays, and goes on by deeds that can be undone.

What is kept is a tuple with, for each stay that was booked, (stay, stands, room): whether it isn't cancelled, and the
room in which it is put, or None.
"""

from nightsheld.errors import NoDeed, NoNumber, NoRooms, NotNow
from nightsheld.fits import all_fit, more_on
from nightsheld.houses import MOST_STAYS, may_sleep, need_house, need_kind, need_night, need_stay, rooms_for
from nightsheld.plans import least_plan
from nightsheld.wholes import is_within


def standing(kept):
    """The list of (number, stay, room) of all that aren't cancelled."""
    return [(number, stay, room) for number, (stay, stands, room) in enumerate(kept) if stands]


def standing_stays(kept):
    """The tuple of the stays that aren't cancelled."""
    return tuple([stay for number, stay, room in standing(kept)])


def plan_of(house, kept):
    """The least plan of all that aren't cancelled, with the rooms in which they are put; None where there is none."""
    choices = [rooms_for(house, stay) if room is None else [room] for number, stay, room in standing(kept)]
    return least_plan(standing_stays(kept), choices)


def with_instead(kept, number, entry):
    """What is kept, with another entry at the number."""
    return kept[:number] + (entry,) + kept[number + 1:]


def need_standing(kept, number):
    """Refuse what is no number of a stay that isn't cancelled."""
    if not is_within(number, 0, len(kept) - 1) or not kept[number][1]:
        raise NoNumber()


class Inn:
    """Keeps the stays of a house, numbered from 0 as they are booked."""

    def __init__(self, house):
        need_house(house)
        self.house = house
        self.kept = ()
        # What was kept ahead of each deed that can be undone.
        self.past = []

    def go_on(self, kept):
        """Keep something else from now on, by a deed that can be undone."""
        self.past.append(self.kept)
        self.kept = kept

    def book(self, stay):
        """Keep the stay, and tell its number."""
        need_stay(stay)
        stays = standing_stays(self.kept)
        if len(stays) == MOST_STAYS or not all_fit(self.house, stays + (stay,)):
            raise NotNow()
        self.go_on(self.kept + ((stay, True, None),))
        return len(self.kept) - 1

    def cancel(self, number):
        """Cancel the numbered stay."""
        need_standing(self.kept, number)
        # Where a cancelled one was put doesn't count any more, not for == either.
        self.go_on(with_instead(self.kept, number, (self.kept[number][0], False, None)))

    def put(self, number, room):
        """Put the numbered stay in the room."""
        need_standing(self.kept, number)
        stay = self.kept[number][0]
        if not may_sleep(self.house, stay, room):
            raise NoRooms()
        kept = with_instead(self.kept, number, (stay, True, room))
        if plan_of(self.house, kept) is None:
            raise NotNow()
        self.go_on(kept)

    def undo(self):
        """Undo the last deed that stands."""
        if not self.past:
            raise NoDeed()
        self.kept = self.past.pop()

    def stays(self):
        """The rising tuple of (number, stay) of all that aren't cancelled."""
        return tuple([(number, stay) for number, stay, room in standing(self.kept)])

    def rooms(self):
        """The tuple with, for each of these, the room in which it is put, or None."""
        return tuple([room for number, stay, room in standing(self.kept)])

    def plan(self):
        """The least plan of these with the rooms in which they are put; None where there is none."""
        return plan_of(self.house, self.kept)

    def left(self, night, kind):
        """How many stays more of the kind could sleep on the night."""
        need_night(night)
        need_kind(kind)
        return more_on(self.house, standing_stays(self.kept), night, kind)

    def twin(self):
        """Another inn that keeps the same, with the same deeds that can be undone."""
        other = Inn(self.house)
        other.kept = self.kept
        other.past = list(self.past)
        return other

    def __len__(self):
        return len(self.past)

    def __eq__(self, other):
        return isinstance(other, Inn) and self.house == other.house and self.kept == other.kept

    def __repr__(self):
        return f"Inn({len(self.house)} rooms, {len(standing(self.kept))} stays)"
