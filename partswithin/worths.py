"""Partings of priced nests, what they weigh, and what they are worth at a price."""

from math import gcd

from partswithin.errors import BadParting, BadPrice, BadPriced, NoLot
from partswithin.forms import is_list, is_price
from partswithin.priced import Priced


def need_priced(priced):
    if not isinstance(priced, Priced):
        raise BadPriced(priced)


def need_price(price):
    if not is_price(price):
        raise BadPrice(price)


def told_lot(priced, lot):
    """The lot as an ascending tuple; raises NoLot for what is none of the nest's."""
    told = priced.lot_told(lot)
    if told is None:
        raise NoLot(lot)
    return told


def parting_fault(priced, thing):
    need_priced(priced)
    if not is_list(thing):
        return ("form",)
    lots = [priced.lot_told(lot) for lot in thing]
    if None in lots:
        return ("lot", lots.index(None))
    stood = {}
    for index, lot in enumerate(lots):
        if any([place in stood for place in lot]):
            return ("again", index)
        for place in lot:
            stood[place] = True
    for place in priced.places():
        if place not in stood:
            return ("lacks", place)
    return None


def need_parting(priced, parting):
    """Raises BadPriced, BadParting, in this order."""
    if parting_fault(priced, parting) is not None:
        raise BadParting(parting)


def weights(priced, parting):
    need_parting(priced, parting)
    return (sum([priced.loss(lot) for lot in parting]), sum([priced.border(lot) for lot in parting]))


def worth(priced, parting, price):
    need_parting(priced, parting)
    need_price(price)
    loss, border = weights(priced, parting)
    over, under = price
    return lowest(loss * under + border * over, under)


def lowest(over, under):
    """The fraction in lowest terms."""
    divisor = gcd(over, under)
    return (over // divisor, under // divisor)


def weights_above(priced, lots):
    """The dict from each lot that is made of two of a parting's lots or more to what they weigh.

    Lots are passed and told as tuples.
    """
    weighed = {lot: priced.weighs(lot) for lot in lots}
    above = {}
    for lot in priced.rising():
        inner = priced.parts_told(lot)
        if lot not in weighed and len(inner) > 0 and all([part in weighed for part in inner]):
            weighed[lot] = (sum([weighed[part][0] for part in inner]),
                            sum([weighed[part][1] for part in inner]))
            above[lot] = weighed[lot]
    return above
