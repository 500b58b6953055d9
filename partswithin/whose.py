"""Whose a place is: the hollows under it."""

from partswithin.checks import need_place, need_web
from partswithin.errors import BadHollow
from partswithin.hollows import falls, falls_of, hollows, hollows_by_place, is_hollow
from partswithin.walks import row_to, walk


def hollows_under(web, place):
    need_place(web, place)
    owners = hollows_by_place(web)
    reached = walk([place], falls_of(web))
    # falls lead to all places of a hollow: so each is told once, at its first place
    return [owners[stop] for stop in sorted(reached) if stop in owners and owners[stop][0] == stop]


def need_hollow(web, hollow):
    if not is_hollow(web, hollow):
        raise BadHollow(hollow)


def fall_to(web, place, hollow):
    need_place(web, place)
    need_hollow(web, hollow)
    # what is come to in a hollow stays there: so no other hollow is gone through
    return row_to(place, falls_of(web), lambda stop: stop in hollow)


def rises(web):
    """The dict from each place to those that fall to it."""
    above = {place: [] for place in web.places()}
    for place in web.places():
        for near in falls(web, place):
            above[near].append(place)
    return above


def places_over(above, hollow):
    """The places from which rows of falls lead to a hollow."""
    return sorted(walk(hollow, lambda place: above[place]))


def counts_under(web, above):
    """The dict from each place to how many hollows are under it."""
    counts = {place: 0 for place in web.places()}
    for lot in hollows(web):
        for place in places_over(above, lot):
            counts[place] += 1
    return counts


def sure_places(web, hollow):
    need_web(web)
    need_hollow(web, hollow)
    above = rises(web)
    counts = counts_under(web, above)
    return [place for place in places_over(above, hollow) if counts[place] == 1]


def shared_places(web):
    need_web(web)
    counts = counts_under(web, rises(web))
    return [place for place in web.places() if counts[place] > 1]
