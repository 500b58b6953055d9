"""Why two places are not in one lot: of partings by ridges, and of coarsest best partings."""

from partswithin.best import Worths
from partswithin.errors import NoPlace, SamePlace
from partswithin.forms import is_row, lot_indexes
from partswithin.joining import joins_by_lot
from partswithin.kinds import falls_apart, falls_together
from partswithin.partings import are_web_lots, parting_along, parting_told
from partswithin.prices import is_below, least_price
from partswithin.ridges import ridge_fault
from partswithin.whose import hollows_under
from partswithin.worths import lowest, need_price, need_priced


def why_not_with(web, place, other):
    if falls_together(web, place, other) is None:
        return ("never", hollows_under(web, place), hollows_under(web, other))
    rows = falls_apart(web, place, other)
    return None if rows is None else ("some", parting_along(web, rows))


def is_why_not_with(web, place, other, thing):
    told = why_not_with(web, place, other)
    if told is None or not is_row(thing, len(told)) or thing[0] != told[0]:
        return False
    if told[0] == "never":
        if not all([are_web_lots(web, lots) for lots in thing[1:]]):
            return False
        return [parting_told(lots) for lots in thing[1:]] == list(told[1:])
    if ridge_fault(web, thing[1]) is not None:
        return False
    indexes = lot_indexes(thing[1])
    return indexes[place] != indexes[other]


def need_two_of(priced, place, other):
    """Raises BadPriced, NoPlace, SamePlace, in this order."""
    need_priced(priced)
    for thing in (place, other):
        if priced.lot_told([thing]) is None:
            raise NoPlace(thing)
    if place == other:
        raise SamePlace(other)


def lots_with(priced, place, other):
    """The lots that have both places, as tuples, lesser ones first."""
    return [lot for lot in priced.rising() if place in lot and other in lot]


def together_from(priced, place, other):
    need_two_of(priced, place, other)
    joins = joins_by_lot(priced)
    both = lots_with(priced, place, other)
    price = least_price([joins[lot] for lot in both])
    if price is None:
        return None
    there = [lot for lot in both if not is_below(price, joins[lot])]
    return (price, list(there[-1]))


def why_apart(priced, place, other, price):
    need_two_of(priced, place, other)
    need_price(price)
    both = lots_with(priced, place, other)
    if len(both) == 0:
        return ("none",)
    worths = Worths(priced, price)
    if any([worths.is_right_whole(lot) for lot in both]):
        return None
    return ("dear", list(both[0]), lowest(worths.too_dear(both[0]), price[1]))
