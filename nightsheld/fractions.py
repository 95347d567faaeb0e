"""Exact fractions: tuples (top, bottom) of whole numbers, in lowest terms, bottom above 0.

A whole number n is the fraction (n, 1).
"""

from nightsheld.wholes import is_whole


def common_divisor(top, bottom):
    """The greatest divisor common to both; bottom is above 0."""
    while bottom:
        top, bottom = bottom, top % bottom
    return top


def is_fraction(thing):
    """Whether it is a fraction, of anything."""
    if not isinstance(thing, tuple) or len(thing) != 2:
        return False
    top, bottom = thing
    if not is_whole(top) or not is_whole(bottom) or bottom <= 0:
        return False
    return common_divisor(top, bottom) == 1


def is_up_to_one(thing):
    """Whether it is a fraction from 0 to 1, of anything."""
    return is_fraction(thing) and 0 <= thing[0] <= thing[1]


def lowest(top, bottom):
    """The fraction of top divided by bottom; bottom is above 0."""
    # A bottom of 0 or below would pass through unseen and make what is no fraction.
    assert bottom > 0
    divisor = common_divisor(top, bottom)
    return top // divisor, bottom // divisor


def plus(one, other):
    """Both fractions together."""
    return lowest(one[0] * other[1] + other[0] * one[1], one[1] * other[1])


def minus(one, other):
    """One fraction less the other."""
    return lowest(one[0] * other[1] - other[0] * one[1], one[1] * other[1])


def times(one, other):
    """One fraction times the other."""
    return lowest(one[0] * other[0], one[1] * other[1])


def is_less(one, other):
    """Whether one fraction is less than the other."""
    # Tuples compare by their tops first, which tells nothing of the amounts.
    return one[0] * other[1] < other[0] * one[1]


def brought_down(amount):
    """The fraction brought down to a whole number."""
    return amount[0] // amount[1]


def brought_up(amount):
    """The fraction brought up to a whole number."""
    # // brings down, below 0 as well; down from the other side of 0 is up.
    return -(-amount[0] // amount[1])
