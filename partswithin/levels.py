"""Lots below heights, and the levels at which places come together."""

from partswithin.checks import need_height, need_two_places, need_web
from partswithin.joined import Joined
from partswithin.walks import row_to, walk


def lots_below(web, height):
    need_web(web)
    need_height(height)
    return joined_below(web, height).lots()


def joined_below(web, height):
    joined = Joined(web.places())
    for one, other, own in web.ties():
        if own <= height:
            joined.unite(one, other)
    return joined


def parts(web):
    need_web(web)
    joined = Joined(web.places())
    for one, other, _ in web.ties():
        joined.unite(one, other)
    return joined.lots()


def hangs_together(web, lot):
    """Whether ways over the lot's places alone lead from one to all; a lot is not empty."""
    inside = {place: True for place in lot}

    def steps(place):
        return [near for near, _ in web.ties_of(place) if near in inside]

    return len(walk(lot[:1], steps)) == len(inside)


def level(web, one, other):
    need_two_places(web, one, other)
    return height_to_join(web, Joined(web.places()), one, other)


def height_to_join(web, joined, one, other):
    """The least height up to which ties make one lot of both; None if no ties do.

    What is joined already is more joined behind it.
    """
    for height, low, high in sorted([(tie[2], tie[0], tie[1]) for tie in web.ties()]):
        joined.unite(low, high)
        if joined.are_one(one, other):
            return height
    return None


def level_way(web, one, other, height):
    need_two_places(web, one, other)
    need_height(height)

    def steps(place):
        return [near for near, own in web.ties_of(place) if own <= height]

    return row_to(one, steps, lambda place: place == other)


def level_lot(web, one, other, height):
    need_two_places(web, one, other)
    need_height(height)
    joined = joined_below(web, height)
    return None if joined.are_one(one, other) else joined.lot_of(one)
