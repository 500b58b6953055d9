"""The least loss that partings within a border can have."""

from partswithin.best import finest
from partswithin.errors import BadNumber
from partswithin.forms import is_number
from partswithin.stretches import price_row
from partswithin.worths import need_priced, weights


def within_border(priced, border):
    need_priced(priced)
    if not is_number(border):
        raise BadNumber(border)
    # borders of the coarsest best partings fall as prices rise
    for price, parting in price_row(priced):
        _, own = weights(priced, parting)
        if own == border or own < border and price == (0, 1):
            return ("least", price, parting)
        if own < border:
            return ("between", price, finest(priced, price), parting)
    return None
