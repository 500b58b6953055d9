"""Levels of ways to roots, and heights that are raised so that none must rise on its way there."""

from partswithin.forests import least_forest, ways_to_roots
from partswithin.forms import lot_indexes
from partswithin.roots import need_roots


def levels_to(web, roots):
    need_roots(web, roots)
    levels = {}
    # no way to a root is lower than that in a least forest
    for place, near in ways_to_roots(roots, least_forest(web, roots)).items():
        if near is not None:
            own = web.height(place, near)
            levels[place] = max(own, levels.get(near, own))
    return {place: levels[place] for place in sorted(levels)}


def raised(web, roots):
    need_roots(web, roots)
    levels = levels_to(web, roots)
    rooted = lot_indexes(roots)
    rows = []
    for one, other, height in web.ties():
        if one in levels and other in levels:
            rows.append((one, other, max(height, min(levels[one], levels[other]))))
        elif one in levels or other in levels or rooted[one] != rooted[other]:
            rows.append((one, other, height))
    return rows
