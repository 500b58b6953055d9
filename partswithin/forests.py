"""Forests by roots, the least of them, and what can be exchanged in others."""

from partswithin.checks import tie_told
from partswithin.errors import BadForest
from partswithin.forms import is_list, is_row, lot_indexes, pair_told
from partswithin.joined import Joined
from partswithin.roots import need_roots
from partswithin.walks import walk


def forest_fault(web, roots, thing):
    need_roots(web, roots)
    if not is_list(thing):
        return ("form",)
    index = first_no_tie(web, roots, thing)
    if index is not None:
        return ("tie", index)
    joined = joined_as_one(web, roots)
    for index, (one, other) in enumerate(thing):
        if not joined.unite(one, other):
            return ("ring", index)
    rooted = lot_indexes(roots)
    for place in web.places():
        if not any([near in rooted for near in joined.lot_of(place)]):
            return ("lone", place)
    return None


def first_no_tie(web, roots, things):
    """The index of the first thing that is no tie of the web, stood before, or is within a root."""
    rooted = lot_indexes(roots)
    stood = {}
    for index, thing in enumerate(things):
        tie = tie_told(web, thing)
        if tie is None or tie in stood or is_within_root(rooted, tie):
            return index
        stood[tie] = True
    return None


def is_within_root(rooted, tie):
    one, other = tie
    return one in rooted and rooted[one] == rooted.get(other)


def joined_as_one(web, roots):
    """The places, with those of all roots as one lot.

    Ties that join two roots then close a ring, too.
    """
    joined = Joined(web.places())
    joined.unite_all([place for root in roots for place in root])
    return joined


def need_forest(web, roots, forest):
    if forest_fault(web, roots, forest) is not None:
        raise BadForest(forest)


def pieces(web, roots, forest):
    need_forest(web, roots, forest)
    joined = Joined(web.places())
    for root in roots:
        joined.unite_all(root)
    for one, other in forest:
        joined.unite(one, other)
    return joined.lots()


def least_forest(web, roots):
    need_roots(web, roots)
    joined = joined_as_one(web, roots)
    ties = sorted([(height, one, other) for one, other, height in web.ties()])
    return sorted([(one, other) for _, one, other in ties if joined.unite(one, other)])


def ways_to_roots(roots, forest):
    """The dict from each place to the next one on its way to its root, None within one."""
    near = {}
    for one, other in forest:
        near.setdefault(one, []).append(other)
        near.setdefault(other, []).append(one)
    rooted = [place for root in roots for place in root]
    return walk(rooted, lambda place: near.get(place, []))


def ties_to_root(ahead, place):
    ties = []
    while ahead[place] is not None:
        ties.append(pair_told(place, ahead[place]))
        place = ahead[place]
    return ties


def circuit(ahead, one, other):
    """The ties of a tie's circuit, ascending.

    They are those on the way from just one of both ends to its root: where both ways meet,
    within one piece, the rest is on both. A tie of the forest comes out as its own circuit,
    one within a root with none, so that neither has a higher one in it.
    """
    return sorted(set(ties_to_root(ahead, one)) ^ set(ties_to_root(ahead, other)))


def exchange(web, roots, forest):
    need_forest(web, roots, forest)
    ahead = ways_to_roots(roots, forest)
    for one, other, height in web.ties():
        for gone in circuit(ahead, one, other):
            if web.height(gone[0], gone[1]) > height:
                return ((one, other), gone)
    return None


def is_exchange(web, roots, forest, thing):
    need_forest(web, roots, forest)
    if not is_row(thing, 2):
        return False
    come = tie_told(web, thing[0])
    gone = tie_told(web, thing[1])
    if come is None or gone is None:
        return False
    ahead = ways_to_roots(roots, forest)
    if web.height(gone[0], gone[1]) <= web.height(come[0], come[1]):
        return False
    return gone in circuit(ahead, come[0], come[1])
