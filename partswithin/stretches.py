"""The prices at which lots join, and the coarsest best partings as prices rise."""

from partswithin.joining import ends_by_lot, joins_by_lot
from partswithin.prices import is_below, prices_rising
from partswithin.worths import need_priced, told_lot


def joins_at(priced, lot):
    need_priced(priced)
    told = told_lot(priced, lot)
    return joins_by_lot(priced)[told]


def stretch_by_lot(priced):
    """The dict from each lot, as a tuple, that ever stands in a coarsest best parting to (low, high)."""
    joins = joins_by_lot(priced)
    ends = ends_by_lot(priced, joins)
    return {lot: (joins[lot], ends[lot]) for lot in joins if is_below(joins[lot], ends[lot])}


def stretch(priced, lot):
    need_priced(priced)
    told = told_lot(priced, lot)
    return stretch_by_lot(priced).get(told)


def price_row(priced):
    need_priced(priced)
    stands = stretch_by_lot(priced)
    # where a lot that ever stands there joins the parting changes, and nowhere else
    prices = prices_rising([(0, 1)] + [low for low, _ in stands.values()])
    return [(price, parting_at_price(stands, price)) for price in prices]


def parting_at_price(stands, price):
    return sorted([list(lot) for lot, (low, high) in stands.items()
                   if is_below(price, high) and not is_below(price, low)])
