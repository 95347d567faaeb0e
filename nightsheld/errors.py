"""The errors by which the program refuses what is handed in.

Each stands straight under InnError, so that a handler for one never takes another.
"""


class InnError(ValueError):
    """Whatever the program refuses."""


class NoHouse(InnError):
    """It is no house."""


class NoStay(InnError):
    """It is no stay."""


class NoStays(InnError):
    """They are no stays."""


class NoNight(InnError):
    """It is no night."""


class NoKind(InnError):
    """It is no kind of room."""


class NoNights(InnError):
    """It is no number of nights."""


class NoRooms(InnError):
    """They are no rooms told already, or it is no room's number that could be put."""


class NoPlan(InnError):
    """It is no plan by nights."""


class NoChances(InnError):
    """They are no chances."""


class NoChance(InnError):
    """It is no chance."""


class NoNumber(InnError):
    """It is no such number."""


class NoCoins(InnError):
    """They are no coins."""


class NoGuests(InnError):
    """They are no guests."""


class NoKeys(InnError):
    """They are no keys."""


class NoUses(InnError):
    """They are no uses of keys."""


class NoGone(InnError):
    """It doesn't tell when the keys' guests are gone."""


class NoPrices(InnError):
    """They are no prices."""


class NoRule(InnError):
    """It is no rule."""


class NoParts(InnError):
    """They are no parts."""


class NoBook(InnError):
    """It is no book."""


class NoDay(InnError):
    """It is no day."""


class NoTold(InnError):
    """They are no rows that somebody told."""


class NoGroups(InnError):
    """They are no groups."""


class NoRequests(InnError):
    """They are no requests."""


class NotNow(InnError):
    """The deed is one, but it can't be done now."""


class NoDeed(InnError):
    """There is no deed to undo."""


class NoLine(InnError):
    """It is no line for a desk."""


class NoText(InnError):
    """It is no text of a house and its stays; line tells where."""

    def __init__(self, line):
        super().__init__("no text of a house and its stays")
        self.line = line
