"""Two nests: the lots that both have, all lots of both, and those of one that cross some of the other."""

from partswithin.errors import BadNest
from partswithin.nests import is_nest


def need_nests(one, other):
    """Raises BadNest of the one, then of the other."""
    for thing in (one, other):
        if not is_nest(thing):
            raise BadNest(thing)


def lots_of_nest(nest):
    """The lots as ascending tuples, ascending."""
    return sorted([tuple(sorted(lot)) for lot, _ in nest])


def with_levels(lots):
    """The nest of these lots, each with how many of them lie within it."""
    insides = [{place: True for place in lot} for lot in lots]
    return [(list(lot), len([one for one in lots if is_less_within(one, lot, inside)]))
            for lot, inside in zip(lots, insides)]


def is_less_within(one, lot, inside):
    """Whether the one lot lies within the other one, which has more; inside has its places."""
    return len(one) < len(lot) and all([place in inside for place in one])


def common(one, other):
    need_nests(one, other)
    theirs = {lot: True for lot in lots_of_nest(other)}
    return with_levels([lot for lot in lots_of_nest(one) if lot in theirs])


def whole(one, other):
    if crossing(one, other) is not None:
        return None
    return with_levels(sorted(set(lots_of_nest(one) + lots_of_nest(other))))


def crossing(one, other):
    need_nests(one, other)
    for mine in lots_of_nest(one):
        inside = {place: True for place in mine}
        for lot in lots_of_nest(other):
            shared = len([place for place in lot if place in inside])
            if 0 < shared < min(len(mine), len(lot)):
                return (list(mine), list(lot))
    return None
