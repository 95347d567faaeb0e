"""Who pays how much, to the coin: of one amount, or in a table night by night."""

from nightsheld.errors import NoCoins, NoParts
from nightsheld.fractions import brought_down, brought_up, lowest
from nightsheld.houses import MOST_NIGHTS
from nightsheld.wholes import is_whole, is_within

MOST_PAYERS = 4
MOST_PART = 99
MOST_COINS = 1000000


def are_parts(thing):
    """Whether it is a tuple with a part for each payer, not all 0, of anything."""
    if not isinstance(thing, tuple) or not 1 <= len(thing) <= MOST_PAYERS:
        return False
    return all([is_within(part, 0, MOST_PART) for part in thing]) and sum(thing) > 0


def is_amount(thing):
    """Whether it is coins that can be shared, of anything."""
    return is_within(thing, 0, MOST_COINS)


def are_amounts(thing):
    """Whether it is a tuple of such coins, night by night, of anything."""
    if not isinstance(thing, tuple) or not 1 <= len(thing) <= MOST_NIGHTS:
        return False
    return all([is_amount(coins) for coins in thing])


def need_parts(parts):
    """Refuse what is no parts."""
    if not are_parts(parts):
        raise NoParts()


def need_amounts(coins):
    """Refuse what is no coins night by night."""
    if not are_amounts(coins):
        raise NoCoins()


def shared(parts, coins):
    """The tuple of what each payer pays of the coins."""
    need_parts(parts)
    if not is_amount(coins):
        raise NoCoins()
    together = sum(parts)
    pays = [coins * part // together for part in parts]
    rests = [coins * part % together for part in parts]
    # What is alike keeps its order when it is sorted: of like rests the first ones come first.
    order = sorted(range(len(parts)), key=lambda payer: -rests[payer])
    for payer in order[:coins - sum(pays)]:
        pays[payer] += 1
    return tuple(pays)


def both_ways(parts, coins):
    """For each payer its exact part of the coins, brought down and brought up."""
    together = sum(parts)
    exact = [lowest(coins * part, together) for part in parts]
    return [(brought_down(part), brought_up(part)) for part in exact]


def are_exact(parts, coins, pays):
    """Whether each payer pays its exact part of the coins, brought down or up."""
    return all([paid in ways for paid, ways in zip(pays, both_ways(parts, coins))])


def rows_for(parts, coins):
    """Each row that a night of these coins can have in a table."""
    rows = [()]
    for down, up in both_ways(parts, coins):
        rows = [row + (paid,) for row in rows for paid in sorted({down, up})]
    return [row for row in rows if sum(row) == coins]


def with_night(reached, rows):
    """What is reached, as in reached_by, with one of the rows more."""
    grown = {}
    for sums, told in reached.items():
        for row in rows:
            grown.setdefault(tuple([paid + more for paid, more in zip(sums, row)]), told + (row,))
    return grown


def reached_by(parts, coins):
    """For each tuple of what the payers can pay of all nights together some rows that come to it."""
    reached = {(0,) * len(parts): ()}
    for amount in coins:
        reached = with_night(reached, rows_for(parts, amount))
    return reached


def table(parts, coins):
    """Some table: for each night the tuple of what each payer pays, right by nights and by payers."""
    need_parts(parts)
    need_amounts(coins)
    together = sum(coins)
    return [told for sums, told in reached_by(parts, coins).items() if are_exact(parts, together, sums)][0]


def is_row(parts, coins, thing):
    """Whether it is a row that a night of these coins can have in a table, of anything."""
    if not isinstance(thing, tuple) or len(thing) != len(parts) or not all([is_whole(paid) for paid in thing]):
        return False
    return sum(thing) == coins and are_exact(parts, coins, thing)


def is_table(parts, coins, thing):
    """Whether it is a table, of anything."""
    need_parts(parts)
    need_amounts(coins)
    if not isinstance(thing, tuple) or len(thing) != len(coins):
        return False
    if not all([is_row(parts, amount, row) for amount, row in zip(coins, thing)]):
        return False
    return are_exact(parts, sum(coins), [sum(payer) for payer in zip(*thing)])
