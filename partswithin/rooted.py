"""Partings by roots, what shows that a parting is none, and what joins when a root is let go."""

from partswithin.errors import BadNumber, BadParting
from partswithin.forests import least_forest, pieces
from partswithin.forms import is_number, lot_indexes
from partswithin.partings import lots_wrong, parting_told, ties_between
from partswithin.raising import raised
from partswithin.roots import need_roots
from partswithin.walks import descend


def parting_by(web, roots):
    return pieces(web, roots, least_forest(web, roots))


def roots_fault(web, roots, thing):
    need_roots(web, roots)
    owners = {place: sorted(root) for root in roots for place in root}
    fault = lots_wrong(web, owners, "roots", thing)
    if fault == ("form",) or not is_ascending(thing):
        return ("form",)
    if fault is not None:
        return fault
    heights = {(one, other): height for one, other, height in raised(web, roots)}
    between = ties_between(web, thing)
    for one, other, height in between:
        if height < heights[(one, other)]:
            return ("low", one, other)
    return drop_missing(between, lot_indexes(thing), heights, owners)


def is_ascending(parting):
    """Whether lots, and the places in them, are passed as they are told."""
    return [list(lot) for lot in parting] == parting_told(parting)


def drop_missing(between, indexes, heights, owners):
    """The first of these ties, and its first end, from which no row leads down to the end's root."""
    near = {place: [] for place in indexes}
    for (one, other), height in heights.items():
        if indexes[one] == indexes[other]:
            near[one].append((other, height))
            near[other].append((one, height))
    for one, other, height in between:
        for end in (one, other):
            come, _ = descend(end, height, lambda place: near[place])
            if not any([place in owners for place in come]):
                return ("drop", one, other, end, {place: come[place] for place in sorted(come)})
    return None


def may_join(web, roots, parting, index):
    if roots_fault(web, roots, parting) is not None:
        raise BadParting(parting)
    if not is_number(index) or index >= len(parting):
        raise BadNumber(index)
    return tied_least(web, parting, index)


def tied_least(web, lots, index):
    """The indexes of the lots to which the least ties lead out of a lot, ascending."""
    indexes = lot_indexes(lots)
    ways_out = [(height, indexes[near]) for place in lots[index]
                for near, height in web.ties_of(place) if indexes[near] != index]
    least = min([height for height, _ in ways_out], default=None)
    return sorted(set([near for height, near in ways_out if height == least]))
