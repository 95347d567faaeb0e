"""Choice: which requests are best taken, and the least worth by which one is among them."""

from nightsheld.errors import NoNumber, NoRequests
from nightsheld.fits import all_fit
from nightsheld.houses import is_stay, need_house, need_stays
from nightsheld.wholes import is_within

MOST_REQUESTS = 8
MOST_WORTH = 1000


def is_request(thing):
    """Whether it is a request, of anything: a tuple (stay, worth)."""
    if not isinstance(thing, tuple) or len(thing) != 2:
        return False
    stay, worth = thing
    return is_stay(stay) and is_within(worth, 0, MOST_WORTH)


def are_requests(thing):
    """Whether it is a tuple of requests, of anything."""
    if not isinstance(thing, tuple) or len(thing) > MOST_REQUESTS:
        return False
    return all([is_request(request) for request in thing])


def need_asked(house, stays, requests):
    """Refuse what is no house, no stays or no requests."""
    need_house(house)
    need_stays(stays)
    if not are_requests(requests):
        raise NoRequests()


def fit_with(house, stays, requests, lot):
    """Whether the numbered requests fit with all stays."""
    return all_fit(house, stays + tuple([requests[number][0] for number in lot]))


def lots_that_fit(house, stays, requests):
    """Each rising tuple of numbers of requests that fit with all stays."""
    lots = [()] if all_fit(house, stays) else []
    for number in range(len(requests)):
        # What doesn't fit with fewer requests doesn't with more, so those that fit are all that may grow.
        grown = [lot + (number,) for lot in lots]
        lots = lots + [lot for lot in grown if fit_with(house, stays, requests, lot)]
    return lots


def best_of(lots, worths):
    """(worth, lot): the lot of the greatest worth together, of as much the least; None where there is no lot."""
    # By the worth below 0 the greatest one comes first, and the least lot still does.
    told = min([(-sum([worths[number] for number in lot]), lot) for lot in lots], default=None)
    return None if told is None else (-told[0], told[1])


def best(house, stays, requests):
    """(worth, numbers): the requests that are best taken, and their worth; None where the stays alone don't fit."""
    need_asked(house, stays, requests)
    return best_of(lots_that_fit(house, stays, requests), [worth for stay, worth in requests])


def least_worth(house, stays, requests, number):
    """The least worth with which the numbered request would be among the best ones; None where none is."""
    need_asked(house, stays, requests)
    if not is_within(number, 0, len(requests) - 1):
        raise NoNumber()
    lots = lots_that_fit(house, stays, requests)
    # Its own worth doesn't count; at 0 it tells by how much the best lot with it falls short.
    worths = [0 if at == number else worth for at, (stay, worth) in enumerate(requests)]
    taken = best_of([lot for lot in lots if number in lot], worths)
    if taken is None:
        return None
    # Without it the same lot fits too, so that this is never worth less.
    refused = best_of([lot for lot in lots if number not in lot], worths)
    short = refused[0] - taken[0]
    return short if taken[1] < refused[1] else short + 1
