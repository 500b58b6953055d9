"""Water that rises everywhere alike, the lakes that meet, and what their hollows end at."""

from partswithin.checks import need_height, need_web
from partswithin.errors import BadKind
from partswithin.hollows import floor, hollows
from partswithin.joined import Joined
from partswithin.levels import joined_below
from partswithin.whose import need_hollow

KINDS = ("depth", "size", "held")


def lake_of(web, hollow, height):
    need_web(web)
    need_hollow(web, hollow)
    need_height(height)
    own = floor(web, hollow[0])
    if own is None or own >= height:
        return None
    # heights are integers, so lower ties are those up to one less
    return joined_below(web, height - 1).lot_of(hollow[0])


def ends_at(web, kind):
    need_web(web)
    if kind not in KINDS:
        raise BadKind(kind)
    floors = {place: floor(web, place) for place in web.places()}
    ties = pairs_by_height(web)
    below = Joined(web.places())
    upto = Joined(web.places())
    left = hollows(web)
    ends = []
    for height in sorted(ties):
        upto.unite_pairs(ties[height])
        # a hollow has a lake only where its own ties are lower than the water
        wet = [hollow for hollow in left if floors[hollow[0]] is not None and floors[hollow[0]] < height]
        for lakes in meetings(upto, wet):
            ranked = sorted([(-number_of(kind, height, floors, hollow, below.lot_of(hollow[0])), hollow)
                             for hollow in lakes])
            ends.extend([(hollow, -less) for less, hollow in ranked[1:]])
        ended = [hollow for hollow, _ in ends]
        left = [hollow for hollow in left if hollow not in ended]
        below.unite_pairs(ties[height])
    return sorted(ends + [(hollow, None) for hollow in left])


def pairs_by_height(web):
    """The dict from each height to the ties that have it."""
    pairs = {}
    for one, other, height in web.ties():
        pairs.setdefault(height, []).append((one, other))
    return pairs


def meetings(joined, wet):
    """The lists of hollows whose lakes are in one lot, two at least."""
    lots = {}
    for hollow in wet:
        lots.setdefault(joined.top_of(hollow[0]), []).append(hollow)
    return [lakes for lakes in lots.values() if len(lakes) > 1]


def number_of(kind, height, floors, hollow, lake):
    """The number of a hollow's lake where water stands at this height."""
    if kind == "depth":
        return height - floors[hollow[0]]
    if kind == "size":
        return len(lake)
    return sum([height - floors[place] for place in lake])


def order_by(web, kind):
    ends = ends_at(web, kind)
    ranked = sorted([(number, hollow) for hollow, number in ends if number is not None])
    return [hollow for _, hollow in ranked] + [hollow for hollow, number in ends if number is None]
