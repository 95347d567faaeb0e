"""Sold beyond: how many come by their chances, how many beyond the rooms, and how many bookings are best sold."""

from nightsheld.errors import NoChance, NoChances, NoCoins, NoNumber
from nightsheld.fractions import is_less, is_up_to_one, minus, plus, times
from nightsheld.wholes import is_within

MOST_CHANCES = 10
MOST_NUMBER = 12
MOST_COINS = 1000


def are_chances(thing):
    """Whether it is a tuple of chances, of anything."""
    if not isinstance(thing, tuple) or len(thing) > MOST_CHANCES:
        return False
    return all([is_up_to_one(chance) for chance in thing])


def need_chances(chances):
    """Refuse what is no chances."""
    if not are_chances(chances):
        raise NoChances()


def need_number(number):
    """Refuse what is no number of rooms or of bookings that are sold."""
    if not is_within(number, 0, MOST_NUMBER):
        raise NoNumber()


def need_coins(coins):
    """Refuse what is no price, and nothing that one could be paid."""
    if not is_within(coins, 0, MOST_COINS):
        raise NoCoins()


def need_sale(chance, rooms, price, paid):
    """Refuse what is no sale of bookings of one chance."""
    if not is_up_to_one(chance):
        raise NoChance()
    need_number(rooms)
    need_coins(price)
    need_coins(paid)


def with_booking(likely, chance):
    """The chances of each number of comers, with one booking more."""
    chance_not = minus((1, 1), chance)
    none_more = [times(each, chance_not) for each in likely] + [(0, 1)]
    one_more = [(0, 1)] + [times(each, chance) for each in likely]
    return [plus(none, one) for none, one in zip(none_more, one_more)]


def comers_of(chances):
    """For each number from 0 to that of all bookings, the chance that just so many come; of however many bookings."""
    likely = [(1, 1)]
    for chance in chances:
        likely = with_booking(likely, chance)
    return likely


def mean_of(likely, amounts):
    """Each amount times its chance, together."""
    mean = (0, 1)
    for chance, amount in zip(likely, amounts):
        mean = plus(mean, times(chance, (amount, 1)))
    return mean


def comers(chances):
    """The tuple with, for each number from 0 to that of all bookings, the chance that just so many come."""
    need_chances(chances)
    return tuple(comers_of(chances))


def beyond(chances, rooms):
    """The chance that more come than rooms."""
    need_chances(chances)
    need_number(rooms)
    return mean_of(comers_of(chances), [1 if many > rooms else 0 for many in range(len(chances) + 1)])


def mean_beyond(chances, rooms):
    """The mean of how many come beyond the rooms."""
    need_chances(chances)
    need_number(rooms)
    return mean_of(comers_of(chances), [max(0, many - rooms) for many in range(len(chances) + 1)])


def earned(rooms, price, paid, many):
    """What is earned where so many come, perhaps below 0."""
    return price * min(many, rooms) - paid * max(0, many - rooms)


def mean_earning(chance, rooms, price, paid, sold):
    """As earning tells it, of what is known to be a sale."""
    amounts = [earned(rooms, price, paid, many) for many in range(sold + 1)]
    return mean_of(comers_of([chance] * sold), amounts)


def earning(chance, rooms, price, paid, sold):
    """The mean earning of so many bookings of one chance, a fraction, perhaps below 0."""
    need_sale(chance, rooms, price, paid)
    need_number(sold)
    return mean_earning(chance, rooms, price, paid, sold)


def best_sold(chance, rooms, price, paid):
    """(sold, earning): the number of bookings whose mean earning is the greatest, the least such."""
    need_sale(chance, rooms, price, paid)
    best, most = 0, mean_earning(chance, rooms, price, paid, 0)
    for sold in range(1, MOST_NUMBER + 1):
        mean = mean_earning(chance, rooms, price, paid, sold)
        # Only a greater one, so that of like ones the least number is kept.
        if is_less(most, mean):
            best, most = sold, mean
    return best, most
