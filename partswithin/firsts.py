"""Partings by an order of hollows, and the ridges between lots."""

from partswithin.checks import is_web_lot, need_place, need_web
from partswithin.errors import BadOrder
from partswithin.forms import is_list
from partswithin.hollows import hollows_by_place
from partswithin.joined import Joined
from partswithin.levels import height_to_join
from partswithin.partings import need_parting
from partswithin.whose import places_over, rises


def need_order(web, order):
    """Raises BadWeb, BadOrder, in this order."""
    need_web(web)
    if not is_list(order):
        raise BadOrder(0)
    owners = hollows_by_place(web)
    for index, thing in enumerate(order):
        if not is_web_lot(web, thing) or owners.get(thing[0]) != sorted(thing):
            raise BadOrder(index)
        # a hollow that stood is found no more
        for place in thing:
            del owners[place]
    if len(owners) > 0:
        raise BadOrder(len(order))


def first_parting(web, order):
    need_order(web, order)
    above = rises(web)
    given = {}
    lots = []
    for hollow in order:
        lot = [place for place in places_over(above, hollow) if place not in given]
        for place in lot:
            given[place] = True
        lots.append(lot)
    return sorted(lots)


def ridge_pass(web, parting, one, other):
    need_parting(web, parting)
    need_place(web, one)
    need_place(web, other)
    joined = Joined(web.places())
    for lot in parting:
        joined.unite_all(lot)
    if joined.are_one(one, other):
        return None
    return height_to_join(web, joined, one, other)
