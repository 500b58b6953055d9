"""Falls within a lot, and the places from which none leads to a hollow there."""

from partswithin.checks import need_web
from partswithin.errors import BadLot, NoPlace
from partswithin.forms import is_list
from partswithin.hollows import falls, hollows
from partswithin.walks import row_to, walk


def need_lot(web, lot):
    """Raises BadLot for the first thing that is no place, or stood before."""
    need_web(web)
    if not is_list(lot):
        raise BadLot(0)
    stood = {}
    for index, place in enumerate(lot):
        if not web.has_place(place) or place in stood:
            raise BadLot(index)
        stood[place] = True


def need_place_within(web, lot, place):
    need_lot(web, lot)
    if place not in lot:
        raise NoPlace(place)


def steps_within(web, lot):
    """What tells the places of the lot to which a place falls."""
    inside = {place: True for place in lot}
    return lambda place: [near for near in falls(web, place) if near in inside]


def whole_places(web, lot):
    """The dict of True for the places of the hollows that are whole in the lot."""
    inside = {place: True for place in lot}
    whole = [hollow for hollow in hollows(web) if all([place in inside for place in hollow])]
    return {place: True for hollow in whole for place in hollow}


def fall_within(web, lot, place):
    need_place_within(web, lot, place)
    whole = whole_places(web, lot)
    return row_to(place, steps_within(web, lot), lambda stop: stop in whole)


def stuck(web, lot, place):
    need_place_within(web, lot, place)
    whole = whole_places(web, lot)
    reached = sorted(walk([place], steps_within(web, lot)))
    return None if any([stop in whole for stop in reached]) else reached
