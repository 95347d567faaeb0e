"""Bills: what each night of a stay costs, and what they cost together, with the tax."""

from nightsheld.errors import NoPrices, NoRule
from nightsheld.fractions import brought_up, is_up_to_one, times
from nightsheld.houses import MOST_KIND, need_stay
from nightsheld.wholes import is_within

WEEK = 7
MOST_PRICE = 1000
MOST_EVERY = 8


def is_week(thing):
    """Whether it is a tuple with a price for each night of the week, of anything."""
    if not isinstance(thing, tuple) or len(thing) != WEEK:
        return False
    return all([is_within(price, 0, MOST_PRICE) for price in thing])


def are_prices(thing):
    """Whether it is a tuple with a week of prices for each kind, of anything."""
    if not isinstance(thing, tuple) or len(thing) != MOST_KIND:
        return False
    return all([is_week(week) for week in thing])


def is_every(thing):
    """Whether it tells which nights cost nothing, 0 that none does, of anything."""
    # By 1 all nights would cost nothing; the document leaves it out.
    return is_within(thing, 0, MOST_EVERY) and thing != 1


def is_rule(thing):
    """Whether it is a rule, of anything: a tuple (every, tax)."""
    if not isinstance(thing, tuple) or len(thing) != 2:
        return False
    every, tax = thing
    return is_every(every) and is_up_to_one(tax)


def need_billed(prices, rule, stay):
    """Refuse what is no prices, no rule or no stay."""
    if not are_prices(prices):
        raise NoPrices()
    if not is_rule(rule):
        raise NoRule()
    need_stay(stay)


def is_free(every, count):
    """Whether the stay's night of this count, from 1 on, costs nothing."""
    return every > 0 and count % every == 0


def nights_cost(prices, rule, stay):
    """What each night of the stay costs, of what is known to be prices, a rule and a stay."""
    kind, first, nights = stay
    week = prices[kind - 1]
    return [
        0 if is_free(rule[0], count) else week[(first + count - 1) % WEEK]
        for count in range(1, nights + 1)
    ]


def nightly(prices, rule, stay):
    """The tuple of what each night of the stay costs."""
    need_billed(prices, rule, stay)
    return tuple(nights_cost(prices, rule, stay))


def bill(prices, rule, stay):
    """(coins, tax, total): what the nights cost together, the tax of that, brought up, and both."""
    need_billed(prices, rule, stay)
    coins = sum(nights_cost(prices, rule, stay))
    tax = brought_up(times((coins, 1), rule[1]))
    return coins, tax, coins + tax
