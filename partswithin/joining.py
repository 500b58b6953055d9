"""The prices at which the lots of a priced nest join, and those around them do."""

from partswithin.prices import is_below, least_price
from partswithin.worths import lowest


def joins_by_lot(priced):
    """The dict from each lot, as a tuple, to its joins_at."""
    joins = {}
    for lot in priced.rising():
        joins[lot] = price_to_join(priced, joins, lot)
    return joins


def price_to_join(priced, joins, lot):
    """The least price at which a lot is not dearer than any that part it; joins tells those within it.

    What the best ones weigh at a price is, at all prices, no less than what is best there: so
    the price at which the lot is not dearer than they is never above the right one.
    """
    price = (0, 1)
    later = price_beside(priced, joins, lot, price)
    while later is not None and is_below(price, later):
        price = later
        later = price_beside(priced, joins, lot, price)
    return None if later is None else price


def price_beside(priced, joins, lot, price):
    """The least price at which a lot is not dearer than what is best at this price of its parts."""
    inner = priced.parts_told(lot)
    if len(inner) == 0:
        return (0, 1)
    best = [priced.weighs(part) for part in joined_within(priced, joins, inner, price)]
    loss, border = priced.weighs(lot)
    more = loss - sum([row[0] for row in best])
    return (0, 1) if more == 0 else met_at(more, sum([row[1] for row in best]) - border)


def met_at(more, saved):
    """The price at which so much border makes up for so much more loss, None if it saves nothing."""
    return lowest(more, saved) if saved > 0 else None


def joined_within(priced, joins, lots, price):
    """The greatest of these lots, and of those within them, that join by this price."""
    queue = list(lots)
    found = []
    while queue:
        lot = queue.pop()
        if is_below(price, joins[lot]):
            queue.extend(priced.parts_told(lot))
        else:
            found.append(lot)
    return found


def ends_by_lot(priced, joins):
    """The dict from each lot to the least price at which one that has it and more joins."""
    ends = {}
    for lot in priced.rising()[::-1]:
        ends.setdefault(lot, None)
        for part in priced.parts_told(lot):
            ends[part] = least_price([ends[lot], joins[lot]])
    return ends
