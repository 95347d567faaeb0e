"""Things of anything that the tests hand in at wrong places."""

import copy


def nest(deep):
    thing = ()
    for step in range(deep - 1):
        thing = (thing,)
    return thing


FAR_NUMBERS = (10**6, 10**11, 10**12 - 1, -(10**6), -(10**11), 1 - 10**12)

TEXTS = ("", "1", "11", "111", "(1, 0, 1)", "rooms 1 2 3\n", " ", "~", "x" * 1000)

NO_WHOLES = (
    True, False, None, *TEXTS, [], [1], [[1]], (), (1,), ((1,),), (1, 2), (1, 0, 1), {}, {1: 1}, {"1": [1]},
    nest(8), [0] * 2000,
)

NO_TUPLES = (
    True, False, None, 0, 1, 2, 3, -1, *FAR_NUMBERS, *TEXTS,
    [], [1], [1, 2], [1, 2, 3], [1, 0, 1], [(1, 0, 1)], [[1, 0, 1]], [(1, 0, 1), (2, 3, 4)],
    {}, {0: 1}, {1: 2, 2: 3}, {1: 0, 2: 0, 3: 0}, {0: 1, 1: 0, 2: 1}, {(1, 0, 1): 0}, {"kind": 1, "first": 0, "nights": 1},
)


def put(row, at, thing):
    """The tuple with the thing in the place of what stands there."""
    return row[:at] + (thing,) + row[at + 1:]


class Kept:
    """Whether a thing is still as it was; by its repr too, as True == 1 to Python."""

    def __init__(self, thing):
        self.thing = thing
        self.before = copy.deepcopy(thing)
        self.shown = repr(thing)

    def holds(self):
        return self.thing == self.before and repr(self.thing) == self.shown
