"""Prices compared and put in order; None stands for a price that is never come to."""


def is_below(one, other):
    """Whether the one price is less than the other one, None being above all."""
    if one is None or other is None:
        return one is not None
    return one[0] * other[1] < other[0] * one[1]


def least_price(prices):
    """The least of these prices, None if there is none."""
    least = None
    for price in prices:
        if is_below(price, least):
            least = price
    return least


def prices_rising(prices):
    """These prices, None left out, each once, rising."""
    told = sorted(set([price for price in prices if price is not None]))
    most = max([under for _, under in told], default=1)
    # unlike ones are apart by one part of most * most at least: so no two have the same key
    return sorted(told, key=lambda price: price[0] * most * most // price[1])
