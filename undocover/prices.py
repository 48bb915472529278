"""Prices: the first of the covers whose choices cost the least together."""

from undocover.answers import Best
from undocover.errors import BadPrices
from undocover.finding import sought
from undocover.ranks import all_covers
from undocover.tables import check_table, is_number


def cheapest(table, prices):
    """A Best with the first of the covers that cost the least, or a Barred where there is no cover."""
    check_table(table)
    check_prices(table, prices)
    covers = all_covers(table)
    if len(covers) == 0:
        return sought(table)
    # Of alike ones min tells the first, and the covers stand in their order.
    best = min(covers, key=lambda cover: cost(prices, cover))
    return Best(best, cost(prices, best))


def check_prices(table, prices):
    """Raise BadPrices if it is no list of a number for each choice of the table."""
    if not isinstance(prices, list) or len(prices) != len(table[2]) or not all([is_number(price) for price in prices]):
        raise BadPrices("this is no list of a number for each choice")


def cost(prices, cover):
    """What the choices of a cover cost together."""
    return sum([prices[choice] for choice in cover])
