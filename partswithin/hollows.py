"""Floors, falls, and the hollows that no fall leaves."""

from partswithin.checks import is_web_lot, need_place, need_web
from partswithin.joined import Joined
from partswithin.walks import row_to


def floor(web, place):
    need_place(web, place)
    return min([height for _, height in web.ties_of(place)], default=None)


def falls(web, place):
    need_place(web, place)
    least = floor(web, place)
    return [near for near, height in web.ties_of(place) if height == least]


def falls_of(web):
    """What tells the falls of a place, for walks."""
    return lambda place: falls(web, place)


def hollows(web):
    need_web(web)
    floors = {place: floor(web, place) for place in web.places()}
    joined = Joined(web.places())
    left = {}
    for one, other, height in web.ties():
        if floors[one] == floors[other] == height:
            joined.unite(one, other)
        elif floors[one] == height:
            left[one] = True
        elif floors[other] == height:
            left[other] = True
    # what falls join at one height is a hollow where no fall leaves it for a lower floor
    return [lot for lot in joined.lots() if not any([place in left for place in lot])]


def hollows_by_place(web):
    """The dict from each place of a hollow to this hollow."""
    return {place: lot for lot in hollows(web) for place in lot}


def hollow_of(web, place):
    need_place(web, place)
    return hollows_by_place(web).get(place)


def is_hollow(web, thing):
    need_web(web)
    return is_web_lot(web, thing) and hollow_of(web, thing[0]) == sorted(thing)


def fall_down(web, place):
    need_place(web, place)
    least = floor(web, place)
    return row_to(place, falls_of(web), lambda stop: is_under(web, stop, least))


def is_under(web, place, height):
    """Whether a place has a lower floor than this height, None for none."""
    own = floor(web, place)
    return own is not None and own < height
