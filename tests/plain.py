"""What the document says of webs, found by plain looking: slow, and only for small webs."""

import itertools

from helpers import hangs, subsets
from partswithin.hollows import falls, hollows
from partswithin.levels import parts


def reached(web, place, lot):
    """All places to which rows of falls over places of the lot lead."""
    found = [place]
    for stop in found:
        found += [near for near in falls(web, stop) if near in lot and near not in found]
    return found


def under(web, place):
    """The hollows to places of which rows of falls lead."""
    lot = reached(web, place, web.places())
    return [hollow for hollow in hollows(web) if set(hollow) & set(lot)]


def owners_by_ridges(web):
    """All partings by ridges, by the words of [31], as dicts to the indexes of the hollows."""
    pits = hollows(web)
    owner = {place: at for at, pit in enumerate(pits) for place in pit}
    free = [place for place in web.places() if place not in owner]
    for choice in itertools.product(range(len(pits)), repeat=len(free)):
        own = dict(owner, **dict(zip(free, choice)))
        lots = [[place for place in web.places() if own[place] == at] for at in range(len(pits))]
        if all(hangs(web, lot) and all(set(pit) <= set(reached(web, place, lot)) for place in lot)
               for lot, pit in zip(lots, pits)):
            yield own


def lots_of(own):
    """The ascending lots of places that are alike by a dict."""
    lots = {}
    for place in sorted(own):
        lots.setdefault(own[place], []).append(place)
    return sorted(lots.values())


def partings_by_ridges(web):
    """All of them, ascending."""
    return sorted(lots_of(own) for own in owners_by_ridges(web))


def sharings(things):
    """All lists of lots that have all things, each once; lots, and things in them, ascending."""
    if not things:
        return [[]]
    found = []
    for lots in sharings(things[1:]):
        found.append(sorted([things[:1]] + lots))
        for at, lot in enumerate(lots):
            found.append(sorted(lots[:at] + [things[:1] + lot] + lots[at + 1:]))
    return found


def rows_to_hollows(web, place):
    """All rows of falls from a place to a hollow, none but the last place in one."""
    pits = [stop for pit in hollows(web) for stop in pit]
    rows = []
    begun = [[place]]
    for row in begun:
        if row[-1] in pits:
            rows.append(row)
        else:
            begun += [row + [near] for near in falls(web, row[-1]) if near not in row]
    return rows


def heights_of(web):
    """The heights of all ties, either way about."""
    return {(one, other): height for low, high, height in web.ties() for one, other in ((low, high), (high, low))}


def ways_within(heights, lot, place):
    """All ways from a place over places of a lot, by a dict of heights either way about."""
    ways = [[place]]
    for way in ways:
        ways += [way + [near] for near in lot if near not in way and (way[-1], near) in heights]
    return ways


def never_rises(heights, way, height):
    """Whether no tie of a way is higher than the one ahead of it, nor the first one than told."""
    told = [height] + [heights[pair] for pair in zip(way, way[1:])]
    return all(ahead >= behind for ahead, behind in zip(told, told[1:]))


def rooted(web, source):
    """Some roots of a web: lots that hang together, one at least in each part."""
    roots = []
    for part in parts(web):
        left = part
        for _ in range(source.choice((1, 2, 2, 3))):
            fits = [lot for lot in subsets(left, 1) if len(lot) < 4 and hangs(web, lot)]
            if fits:
                roots.append(source.choice(fits))
                left = [place for place in left if place not in roots[-1]]
    return roots


def forests(web, roots):
    """All forests of the roots, as ascending lists of ties."""
    root_of = {place: at for at, root in enumerate(roots) for place in root}
    free = [place for place in web.places() if place not in root_of]
    ties = [(one, other) for one, other, _ in web.ties()
            if one not in root_of or root_of[one] != root_of.get(other)]
    for chosen in itertools.combinations(ties, len(free)):
        point = {place: root_of.get(place, place) for place in web.places()}
        for one, other in chosen:
            low, high = point[one], point[other]
            if low == high or isinstance(low, int) and isinstance(high, int):
                break
            kept, gone = (low, high) if isinstance(low, int) else (high, low)
            point = {place: kept if point[place] == gone else point[place] for place in point}
        else:
            yield list(chosen), point


def partings_by_roots(web, roots):
    """The pieces of all least forests of the roots, each once, ascending."""
    own = heights_of(web)
    found = [(sum(own[tie] for tie in forest), lots_of(point)) for forest, point in forests(web, roots)]
    least = min(total for total, _ in found)
    return sorted(lots for lots in {str(lots): lots for total, lots in found if total == least}.values())


def webs_with_hollows(webs):
    """Those webs that have two hollows at least, and a place in none."""
    return [web for web in webs if len(hollows(web)) > 1 and sum(map(len, hollows(web))) < len(web.places())]
