"""Nests: lots within lots, each with a level above the levels of those within it."""

from partswithin.forms import is_integer, is_list, is_lot_of_names, is_row
from partswithin.joined import Joined


def is_nest(thing):
    """Whether any object is a nest of lots of whatever names."""
    if not is_list(thing) or not all([is_row(row, 2) for row in thing]):
        return False
    if not all([is_lot_of_names(row[0]) and is_integer(row[1]) for row in thing]):
        return False
    return are_within(thing)


def are_within(nest):
    """Whether of any two lots that share a place one lies within the other, at a lesser level."""
    # with lesser lots first, the last lot that has a place is the greatest so far:
    # all of it must lie within the next lot that has this place
    lots = []
    last = {}
    for lot, level in sorted(nest, key=lambda row: len(row[0])):
        shared = {}
        for place in lot:
            if place in last:
                shared[last[place]] = shared.get(last[place], 0) + 1
            last[place] = len(lots)
        for at, many in shared.items():
            inner, inner_level = lots[at]
            if many < len(inner) or len(inner) == len(lot) or inner_level >= level:
                return False
        lots.append((lot, level))
    return True


def joined_nest(places, rows):
    """The nest of the lots of two places at least that rows (one, other, level) join.

    Each has the least level up to which the rows do so.
    """
    joined = Joined(places)
    stood = {}
    nest = []
    by_level = {}
    for one, other, level in rows:
        by_level.setdefault(level, []).append((one, other))
    for level in sorted(by_level):
        for one, other in by_level[level]:
            joined.unite(one, other)
        for one, _ in by_level[level]:
            lot = joined.lot_of(one)
            if tuple(lot) not in stood:
                stood[tuple(lot)] = True
                nest.append((lot, level))
    return sorted(nest)
