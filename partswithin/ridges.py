"""Partings by ridges, and what shows that a parting is one, or none."""

from partswithin.checks import need_web
from partswithin.errors import BadParting
from partswithin.forms import lot_indexes, pair_told
from partswithin.hollows import hollows_by_place
from partswithin.partings import (choices_within, lots_chosen, need_parting, parting_wrong,
                                  ties_between)
from partswithin.stuck import stuck
from partswithin.walks import descend, walk
from partswithin.whose import rises


def ridge_fault(web, thing):
    need_web(web)
    fault = parting_wrong(web, thing)
    if fault is not None:
        return fault
    choices = choices_within(web, thing)
    for place in web.places():
        if place not in choices:
            lot = thing[lot_indexes(thing)[place]]
            return ("fall", place, stuck(web, lot, place))
    return None


def need_by_ridges(web, parting):
    if ridge_fault(web, parting) is not None:
        raise BadParting(parting)


def by_ridges(web):
    need_web(web)
    above = rises(web)
    return lots_chosen(web, walk(hollows_by_place(web), lambda place: above[place]))


def drop_fault(web, parting):
    need_parting(web, parting)
    indexes = lot_indexes(parting)
    owners = hollows_by_place(web)

    def ties_at(place):
        return [pair for pair in web.ties_of(place) if indexes[pair[0]] == indexes[place]]

    for one, other, height in ties_between(web, parting):
        for end in (one, other):
            heights, _ = descend(end, height, ties_at)
            if not any([place in owners for place in heights]):
                return ((one, other), end)
    return None


def forest_of(web, parting):
    need_parting(web, parting)
    choices = choices_within(web, parting)
    if len(choices) < len(web.places()):
        return None
    return sorted([pair_told(place, near) for place, near in choices.items() if near is not None])
