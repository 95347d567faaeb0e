"""Things of anything that the tests hand in at wrong places."""

import copy


def nest(deep):
    thing = ()
    for step in range(deep - 1):
        thing = (thing,)
    return thing


FAR_NUMBERS = (10**6, 10**11, 10**12 - 1, -(10**6), -(10**11), 1 - 10**12)

TEXTS = ("", "1", "11", "111", "(1, 0, 1)", "rooms 1 2 3\n", " ", "~", "x" * 1000)

NO_WHOLES = (
    True, False, None, *TEXTS, [], [1], [[1]], (), (1,), ((1,),), (1, 2), (1, 0, 1), {}, {1: 1}, {"1": [1]},
    nest(8), [0] * 2000,
)

NO_TUPLES = (
    True, False, None, 0, 1, 2, 3, -1, *FAR_NUMBERS, *TEXTS,
    [], [1], [1, 2], [1, 2, 3], [1, 0, 1], [(1, 0, 1)], [[1, 0, 1]], [(1, 0, 1), (2, 3, 4)],
    {}, {0: 1}, {1: 2, 2: 3}, {1: 0, 2: 0, 3: 0}, {0: 1, 1: 0, 2: 1}, {(1, 0, 1): 0},
    {"kind": 1, "first": 0, "nights": 1},
)


def put(row, at, thing):
    """The tuple with the thing in the place of what stands there."""
    return row[:at] + (thing,) + row[at + 1:]


class Kept:
    """Whether a thing is still as it was; by its repr too, as True == 1 to Python."""

    def __init__(self, thing):
        self.thing = thing
        self.before = copy.deepcopy(thing)
        self.shown = repr(thing)

    def holds(self):
        return self.thing == self.before and repr(self.thing) == self.shown


def no_numbers(least, most):
    """What is no whole number from least to most."""
    far = [number for number in FAR_NUMBERS if not least <= number <= most]
    return (least - 1, most + 1, least - 2, most + 2, *far, *NO_WHOLES)


NO_HOUSES = (
    (), (1,) * 6, (3,) * 100, (0,), (4,), (-1,), (1, 0), (2, 3, 4), (10**11,), (True,), (1, True), (2, False),
    (1, None), ("1",), ([1],), ((1,),), (1, {}), ((1, 0, 1),), nest(8), *NO_TUPLES,
)

NO_STAY = (
    (), (1,), (1, 0), (1, 0, 1, 1), ((1, 0, 1),), [1, 0, 1], nest(8), *NO_TUPLES,
    *[(thing, 0, 1) for thing in no_numbers(1, 3)], *[(1, thing, 1) for thing in no_numbers(0, 20)],
    *[(1, 0, thing) for thing in no_numbers(1, 8)],
)

NO_STAYS = (
    ((1, 0, 1),) * 9, ((3, 20, 8),) * 100, ((0, 0, 1),), ((4, 0, 1),), ((1, -1, 1),), ((1, 21, 1),), ((1, 0, 0),),
    ((1, 0, 9),), ((True, 0, 1),), ((1, False, 1),), ((1, 0, True),), ((1, 0, None),), ((1, "0", 1),), ([1, 0, 1],),
    ((1, 0, 1), [1, 0, 1]), ((1, 0),), ((1, 0, 1, 1),), ((1, 0, 1), (1, 0)), ((1, 0, 1), None), (1, 0, 1), ((),),
    (((1, 0, 1),),), ((1, 10**11, 1),), nest(8), *NO_TUPLES,
)

# Eight stays that all sleep on night 20.
ALL_MEET = ((1, 20, 8), (2, 20, 7), (3, 19, 8), (1, 15, 8), (2, 18, 5), (3, 20, 1), (1, 17, 4), (2, 13, 8))

# Stays that fit by nights in a house of one room of kind 1 and one of kind 2, but have no plan.
MOVE_HOUSE = (1, 2)
MOVE_STAYS = ((1, 0, 2), (2, 0, 1), (1, 1, 2), (2, 2, 1))


def some_cases(random, many, most_rooms, most_stays, last_first, most_nights):
    """Pairs of a house and stays, up to so great ones."""
    cases = []
    for step in range(many):
        house = [random.randint(1, 3) for room in range(random.randint(1, most_rooms))]
        stays = [
            (random.choice((1, 1, 2, 3)), random.randint(0, last_first), random.randint(1, most_nights))
            for stay in range(random.randint(0, most_stays))
        ]
        cases.append((tuple(house), tuple(stays)))
    return cases
