"""Best partings of so many lots, and the numbers of lots that no price reaches."""

from partswithin.best import Worths
from partswithin.errors import BadNumber
from partswithin.forms import is_number, is_price, is_row
from partswithin.joining import joins_by_lot
from partswithin.prices import prices_rising
from partswithin.worths import need_priced, parting_fault


def with_so_many(priced, many):
    need_many(priced, many)
    between = None
    # between two prices at which lots join only partings are best that are so at the former
    for price in prices_rising([(0, 1), *list(joins_by_lot(priced).values())]):
        found = best_by_size(Worths(priced, price))
        if many in found:
            return ("at", price, sorted([list(lot) for lot in found[many]]))
        if between is None and min(list(found)) < many < max(list(found)):
            between = price
        fewest = min(list(found))
    return ("never", fewest) if between is None else ("between", between)


def need_many(priced, many):
    """Raises BadPriced, BadNumber, in this order."""
    need_priced(priced)
    fewest = len(Worths(priced, (0, 1)).greatest())
    if not is_number(many) or many < fewest or many > len(priced.places()):
        raise BadNumber(many)


def best_by_size(worths):
    """The dict from each number of lots that some best parting has to such a one."""
    rows = {}
    for lot in worths.all_lots:
        rows[lot] = {1: [lot]} if worths.is_right_whole(lot) else {}
        if worths.is_right_parted(lot):
            split = together_by_size([rows[part] for part in worths.made_of[lot]])
            rows[lot] = {**split, **rows[lot]}
    return together_by_size([rows[lot] for lot in worths.greatest()])


def together_by_size(choices):
    """By their number, lots that come of taking one row of lots out of each of these dicts."""
    sums = {0: []}
    for choice in choices:
        sums = both_by_size(sums, choice)
    return sums


def both_by_size(one, other):
    sums = {}
    for many, lots in one.items():
        for more, others in other.items():
            if many + more not in sums:
                sums[many + more] = lots + others
    return sums


def is_with_so_many(priced, many, thing):
    told = with_so_many(priced, many)
    if not is_row(thing, len(told)) or thing[0] != told[0]:
        return False
    if told[0] == "never":
        return is_number(thing[1]) and thing[1] == told[1]
    if not is_price(thing[1]) or tuple(thing[1]) != told[1]:
        return False
    return told[0] == "between" or is_best_of(priced, told[1], many, thing[2])


def is_best_of(priced, price, many, thing):
    """Whether any object is a best parting of so many lots."""
    if parting_fault(priced, thing) is not None or len(thing) != many:
        return False
    worths = Worths(priced, price)
    least = worths.together([priced.lot_told(lot) for lot in worths.best_within(worths.greatest(), True)])
    return worths.together([priced.lot_told(lot) for lot in thing]) == least
