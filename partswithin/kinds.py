"""Which places are in one lot, and which in unlike ones, of partings by ridges."""

from partswithin.checks import need_place, need_two_places
from partswithin.errors import NoTie
from partswithin.forms import is_row, lot_indexes
from partswithin.hollows import falls, hollows, is_hollow
from partswithin.twoways import ways_apart
from partswithin.walks import walk
from partswithin.whose import fall_to, hollows_under


def tie_kind(web, one, other):
    need_place(web, one)
    need_place(web, other)
    if web.height(one, other) is None:
        raise NoTie(one, other)
    if falls_together(web, one, other) is None:
        return "every"
    return "no" if falls_apart(web, one, other) is None else "some"


def steps_to_hollows(web):
    """The dict from each place to those to which it falls, in a hollow to this hollow's index.

    From the index of a hollow no step leads on.
    """
    lots = hollows(web)
    indexes = lot_indexes(lots)
    steps = {index: [] for index in range(len(lots))}
    for place in web.places():
        steps[place] = [indexes[place]] if place in indexes else falls(web, place)
    return steps


def falls_apart(web, one, other):
    need_two_places(web, one, other)
    ways = ways_apart(steps_to_hollows(web), one, other)
    return None if ways is None else (ways[0][:-1], ways[1][:-1])


def go_over(steps, one, other, thing):
    """Whether all rows of falls to hollows from both go over a place, or to a hollow's index."""
    starts = [place for place in (one, other) if place != thing]
    reached = walk(starts, lambda place: [near for near in steps[place] if near != thing])
    return not any([steps[place] == [] for place in reached])


def all_over(web, one, other):
    need_two_places(web, one, other)
    steps = steps_to_hollows(web)
    for place in web.places():
        if go_over(steps, one, other, place):
            return ("place", place)
    for index, lot in enumerate(hollows(web)):
        if go_over(steps, one, other, index):
            return ("hollow", lot)
    return None


def is_all_over(web, one, other, thing):
    need_two_places(web, one, other)
    if not is_row(thing, 2):
        return False
    word, told = thing
    steps = steps_to_hollows(web)
    if word == "place" and web.has_place(told):
        return go_over(steps, one, other, told)
    if word == "hollow" and is_hollow(web, told):
        return go_over(steps, one, other, lot_indexes(hollows(web))[told[0]])
    return False


def falls_together(web, one, other):
    need_two_places(web, one, other)
    theirs = hollows_under(web, other)
    for lot in hollows_under(web, one):
        if lot in theirs:
            return (fall_to(web, one, lot), fall_to(web, other, lot))
    return None
