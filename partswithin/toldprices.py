"""Losses told back from the coarsest best partings at some prices, and what shows that there are none."""

from math import lcm

from partswithin.best import coarsest
from partswithin.errors import BadTold, NoParts, SavesNothing
from partswithin.forms import is_list, is_price, is_row, lot_indexes
from partswithin.partings import parting_told
from partswithin.prices import is_below, least_price, prices_rising
from partswithin.priced import Priced, priced_fault
from partswithin.worths import lowest, need_priced, parting_fault, told_lot


def need_told(priced, told):
    """Raises BadPriced, BadTold, SavesNothing, in this order."""
    need_priced(priced)
    if not is_list(told):
        raise BadTold(0)
    stood = {}
    for index, row in enumerate(told):
        if not is_row(row, 2) or not is_price(row[0]) or parting_fault(priced, row[1]) is not None:
            raise BadTold(index)
        if tuple(row[0]) in stood:
            raise BadTold(index)
        stood[tuple(row[0])] = True
    for lot in sorted(priced.rising()):
        if len(lot) > 1 and saving(priced, lot) <= 0:
            raise SavesNothing(list(lot))


def saving(priced, lot):
    """How much less border a lot has than its parts together."""
    return sum([priced.weighs(part)[1] for part in priced.parts_told(lot)]) - priced.weighs(lot)[1]


def prices_clash(priced, told):
    need_told(priced, told)
    rows = rows_by_price(told)
    for one in range(len(rows)):
        for other in range(one + 1, len(rows)):
            finer, coarser = (one, other) if is_below(rows[one][0], rows[other][0]) else (other, one)
            if not all([is_in_one(rows[coarser][1], lot) for lot in told[finer][1]]):
                return (one, other)
    return None


def rows_by_price(told):
    """The pairs of a told price and the dict from each place to the index of its told lot."""
    return [(tuple(price), lot_indexes(parting)) for price, parting in told]


def is_in_one(indexes, lot):
    """Whether a lot lies within one of the lots that have these indexes."""
    return all([indexes[place] == indexes[lot[0]] for place in lot])


def bounds_of(rows, lot):
    """The greatest told price at which a lot lies within no told lot, the least at which it does."""
    above = prices_rising([price for price, indexes in rows if not is_in_one(indexes, lot)])
    upto = least_price([price for price, indexes in rows if is_in_one(indexes, lot)])
    return (above[-1] if len(above) > 0 else None, upto)


def joins_between(priced, told, lot):
    need_told(priced, told)
    own = told_lot(priced, lot)
    if len(own) == 1:
        raise NoParts(lot)
    return None if prices_clash(priced, told) is not None else bounds_of(rows_by_price(told), own)


def losses_for(priced, told):
    if prices_clash(priced, told) is not None:
        return None
    rows = rows_by_price(told)
    losses = {}
    for lot in priced.rising():
        losses[lot] = (0, 1)
        for part in priced.parts_told(lot):
            losses[lot] = sum_of(losses[lot], losses[part])
        if len(lot) > 1:
            over, under = price_between(rows, lot)
            losses[lot] = sum_of(losses[lot], (saving(priced, lot) * over, under))
    return [(list(lot), losses[lot]) for lot in sorted(losses)]


def price_between(rows, lot):
    """A price at which a lot may join; no lot has a lower one than those within it."""
    above, upto = bounds_of(rows, lot)
    if upto is not None:
        return upto
    return (0, 1) if above is None else (above[0] + above[1], above[1])


def sum_of(one, other):
    return lowest(one[0] * other[1] + other[0] * one[1], one[1] * other[1])


def are_losses_for(priced, told, thing):
    need_told(priced, told)
    losses = losses_told(priced, thing)
    if losses is None:
        return False
    whole = 1
    for _, under in losses.values():
        whole = lcm(whole, under)
    # all losses, and prices, so many times greater: then losses are integers, and the same is best
    rows = [(list(lot), over * (whole // under), priced.weighs(lot)[1])
            for lot, (over, under) in losses.items()]
    # borders were asked already, so it can only be wrong by a loss less than that of the parts
    if priced_fault(rows) is not None:
        return False
    greater = Priced(rows)
    return all([coarsest(greater, lowest(price[0] * whole, price[1])) == parting_told(parting)
                for price, parting in told])


def losses_told(priced, thing):
    """The dict from each lot, as a tuple, to its loss; None of any object that tells none."""
    if not is_list(thing) or not all([is_row(row, 2) and is_price(row[1]) for row in thing]):
        return None
    lots = [priced.lot_told(row[0]) for row in thing]
    if None in lots or sorted(lots) != sorted(priced.rising()):
        return None
    return {lot: tuple(row[1]) for lot, row in zip(lots, thing)}
