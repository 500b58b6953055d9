"""The prices at which a parting is best, and the lots that clash where there are none."""

from partswithin.best import Worths, have_the_same, lots_told
from partswithin.forms import is_row
from partswithin.joining import joins_by_lot, met_at
from partswithin.prices import is_below, least_price
from partswithin.worths import lowest, need_parting, weights_above


def prices_for(priced, parting):
    need_parting(priced, parting)
    _, low = last_to_join(priced, parting)
    high = least_price(list(prices_above(priced, parting).values()))
    return None if low is None or is_below(high, low) else (low, high)


def last_to_join(priced, parting):
    """A lot of the parting, as a tuple, that joins last of all, and its price, None if it never does.

    The lot is None, and the price 0, if none joins above 0.
    """
    joins = joins_by_lot(priced)
    last = (None, (0, 1))
    for told in sorted([priced.lot_told(lot) for lot in parting]):
        if is_below(last[1], joins[told]):
            last = (told, joins[told])
    return last


def prices_above(priced, parting):
    """For each lot made of two of the parting's or more, the price above which it is less dear.

    It is None if there is none.
    """
    prices = {}
    for lot, (loss, border) in weights_above(priced, [priced.lot_told(lot) for lot in parting]).items():
        own_loss, own_border = priced.weighs(lot)
        prices[lot] = met_at(own_loss - loss, border - own_border)
    return prices


def clash(priced, parting):
    if prices_for(priced, parting) is not None:
        return None
    lot, low = last_to_join(priced, parting)
    if low is None:
        # a saving is one at least: by this price all within the lot have joined that ever do
        worths = Worths(priced, (priced.loss(lot), 1))
        return ("never", list(lot), worths.best_within(worths.made_of[lot], True))
    worths = Worths(priced, low)
    above = prices_above(priced, parting)
    high = least_price(list(above.values()))
    others = [other for other in above if above[other] == high]
    return ("two", list(lot), worths.best_within(worths.made_of[lot], False), list(others[0]))


def is_clash(priced, parting, thing):
    need_parting(priced, parting)
    if is_row(thing, 3) and thing[0] == "never":
        less, more = change_by(priced, parting, thing[1], thing[2])
        return less > 0 and more <= 0
    if is_row(thing, 4) and thing[0] == "two":
        less, more = change_by(priced, parting, thing[1], thing[2])
        other = priced.lot_told(thing[3])
        above = prices_above(priced, parting).get(other)
        # with no less loss they are less dear below no price: nothing is below that
        return more > 0 and is_below(above, lowest(less, more))
    return False


def change_by(priced, parting, lot, lots):
    """How much less loss and more border some lots have than one of the parting's that they part.

    It is (0, 0) of any objects that are none.
    """
    told = priced.lot_told(lot)
    inner = lots_told(priced, lots)
    if told not in [priced.lot_told(one) for one in parting] or not have_the_same(inner, told):
        return (0, 0)
    loss, border = priced.weighs(told)
    weighed = [priced.weighs(part) for part in inner]
    return (loss - sum([row[0] for row in weighed]), sum([row[1] for row in weighed]) - border)
