"""Hollows let go in an order, and the nests of the lots that join."""

from partswithin.counted import all_partings
from partswithin.firsts import need_order
from partswithin.forms import lot_indexes
from partswithin.levels import parts
from partswithin.nests import is_nest
from partswithin.partings import is_sharing, parting_told
from partswithin.ridges import by_ridges, ridge_fault
from partswithin.rooted import tied_least


def let_go(web, order):
    """The hollows that go, in their order: all but the last one of each part."""
    indexes = lot_indexes(parts(web))
    last = {indexes[hollow[0]]: at for at, hollow in enumerate(order)}
    return [hollow for at, hollow in enumerate(order) if last[indexes[hollow[0]]] != at]


def joins_of(web, lots, hollow):
    """The lots of which one comes when this hollow goes."""
    index = lot_indexes(lots)[hollow[0]]
    return [sorted([*lots[index], *lots[other]]) for other in tied_least(web, lots, index)]


def with_joined(lots, new):
    """The lots with this new one for those that it is made of."""
    return sorted([lot for lot in lots if lot[0] not in new] + [new])


def nest_by_order(web, order):
    need_order(web, order)
    lots = by_ridges(web)
    nest = [(lot, 0) for lot in lots]
    for at, hollow in enumerate(let_go(web, order)):
        new = joins_of(web, lots, hollow)[0]
        nest.append((new, at + 1))
        lots = with_joined(lots, new)
    return sorted(nest)


def order_fault(web, order, thing):
    need_order(web, order)
    gone = let_go(web, order)
    if not is_nest(thing) or not has_levels(web, thing, len(gone)):
        return ("form",)
    lots = parting_told([lot for lot, level in thing if level == 0])
    if ridge_fault(web, lots) is not None:
        return ("ridges",)
    joined = {level: sorted(lot) for lot, level in thing if level > 0}
    for at, hollow in enumerate(gone):
        new = joined[at + 1]
        if new not in joins_of(web, lots, hollow):
            return ("step", at + 1)
        lots = with_joined(lots, new)
    return None


def has_levels(web, nest, many):
    """Whether lots at level 0 have all places, and one stands at each level from 1 to so many."""
    if not is_sharing(web, [lot for lot, level in nest if level == 0]):
        return False
    return sorted([level for _, level in nest if level != 0]) == list(range(1, many + 1))


def count_nests(web, order):
    need_order(web, order)
    rows = all_partings(web)
    for hollow in let_go(web, order):
        rows = [with_joined(lots, new) for lots in rows for new in joins_of(web, lots, hollow)]
    return len(rows)
