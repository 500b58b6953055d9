"""How far a loss must change until its lot comes into, or goes out of, the coarsest best parting."""

from partswithin.best import worths_at
from partswithin.errors import IsThere, NotThere
from partswithin.worths import lowest, told_lot


def is_there(worths, lot):
    """Whether a lot stands in the coarsest best parting."""
    return worths.is_right_whole(lot) and not any([worths.is_right_whole(one) for one in worths.around(lot)])


def may_rise(priced, price, lot):
    worths = worths_at(priced, price)
    told = told_lot(priced, lot)
    if not is_there(worths, told):
        raise NotThere(lot)
    open_bounds = [worths.too_dear(one) for one in worths.around(told)]
    bounds = open_bounds if worths.parted[told] is None else open_bounds + [-worths.too_dear(told)]
    if len(bounds) == 0:
        return None
    least = min(bounds)
    return (lowest(least, price[1]), least in open_bounds)


def must_fall(priced, price, lot):
    worths = worths_at(priced, price)
    told = told_lot(priced, lot)
    if is_there(worths, told):
        raise IsThere(lot)
    own = 0 if worths.is_right_whole(told) else worths.too_dear(told)
    around = worths.around(told)
    # by how much each lot around it is less dear than its parts: those that are not stay away
    less = [-worths.too_dear(one) for one in around if worths.is_right_whole(one)]
    return (lowest(own + sum(less), price[1]), len(less) > 0)
