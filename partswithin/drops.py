"""Drops: rows within a lot, over ties that never rise, to a hollow; and what bars them."""

from partswithin.checks import is_web_lot, need_height
from partswithin.forms import is_integer
from partswithin.stuck import need_place_within, whole_places
from partswithin.walks import descend, row_back


def need_start(web, lot, place, height):
    need_place_within(web, lot, place)
    need_height(height)


def ties_within(web, lot):
    """What tells the pairs (other, height) at a place, of those within the lot."""
    inside = {place: True for place in lot}
    return lambda place: [pair for pair in web.ties_of(place) if pair[0] in inside]


def drop(web, lot, place, height):
    need_start(web, lot, place, height)
    whole = whole_places(web, lot)
    _, ahead = descend(place, height, ties_within(web, lot))
    for stop in ahead:
        if stop in whole:
            return row_back(ahead, stop)
    return None


def is_drop(web, lot, place, height, thing):
    need_start(web, lot, place, height)
    if not is_web_lot(web, thing) or not all([stop in lot for stop in thing]):
        return False
    if thing[0] != place or thing[-1] not in whole_places(web, lot):
        return False
    most = height
    for one, other in zip(thing, thing[1:]):
        own = web.height(one, other)
        if own is None or own > most:
            return False
        most = own
    return True


def arrivals(web, lot, place, height):
    need_start(web, lot, place, height)
    heights, _ = descend(place, height, ties_within(web, lot))
    return {stop: heights[stop] for stop in sorted(heights)}


def is_bar(web, lot, place, height, thing):
    need_start(web, lot, place, height)
    if not isinstance(thing, dict) or not are_in_no_hollow(web, lot, thing):
        return False
    if place not in thing or thing[place] < height:
        return False
    inside = {stop: True for stop in lot}
    ties = [tie for tie in web.ties() if tie[0] in inside and tie[1] in inside]
    return all([is_held(thing, one, other, own) and is_held(thing, other, one, own)
                for one, other, own in ties])


def are_in_no_hollow(web, lot, table):
    """Whether a dict is from places of the lot, none in a whole hollow, to integers."""
    inside = {place: True for place in lot}
    whole = whole_places(web, lot)
    return all([web.has_place(key) and key in inside and key not in whole and is_integer(table[key])
                for key in table])


def is_held(bar, one, other, height):
    """Whether a tie that can be gone from the one leads to no more than the bar has."""
    if one not in bar or bar[one] < height:
        return True
    return other in bar and bar[other] >= height
