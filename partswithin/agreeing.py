"""Marks: hollows as the roots by which told lots are a parting; and where they agree with prices."""

from partswithin.checks import is_web_lot, need_web
from partswithin.errors import BadSharing, OtherPlaces
from partswithin.forms import is_list, is_row
from partswithin.hollows import hollows
from partswithin.levels import hangs_together
from partswithin.partings import is_sharing, parting_told
from partswithin.raising import levels_to
from partswithin.stretches import price_row
from partswithin.webs import Web
from partswithin.worths import need_priced


def need_sharing(web, sharing):
    """Raises BadWeb, BadSharing, in this order."""
    need_web(web)
    if not is_sharing(web, sharing):
        raise BadSharing(sharing)


def web_within(web, lot):
    """The web of a lot's places and of the ties within it."""
    inside = {place: True for place in lot}
    return Web(lot, [tie for tie in web.ties() if tie[0] in inside and tie[1] in inside])


def hollows_within(pits, lot):
    """Those of these hollows that lie whole in a lot."""
    inside = {place: True for place in lot}
    return [hollow for hollow in pits if all([place in inside for place in hollow])]


def low_tie(web, inner, hollow):
    """A tie out of a lot, inner being the web within it, by which a hollow is no mark; None if none is.

    It is lower than what all ways within the lot from its place to the hollow rise to: so
    it could be exchanged for a tie of any forest by that root.
    """
    levels = levels_to(inner, [hollow])
    for place, height in levels.items():
        for near, own in web.ties_of(place):
            if own < height and not inner.has_place(near):
                return (place, near)
    return None


def mark_in(web, pits, lot):
    """The first of the hollows that can be the mark of a lot; None if none can."""
    if not hangs_together(web, lot):
        return None
    inner = web_within(web, lot)
    for hollow in hollows_within(pits, lot):
        if low_tie(web, inner, hollow) is None:
            return hollow
    return None


def low_rows(web, pits, lot):
    """The list of a pair (hollow, tie) for each hollow in a lot; None if some hollow can be its mark."""
    inner = web_within(web, lot)
    rows = [(hollow, low_tie(web, inner, hollow)) for hollow in hollows_within(pits, lot)]
    return None if any([tie is None for _, tie in rows]) else rows


def marks_for(web, sharing):
    need_sharing(web, sharing)
    pits = hollows(web)
    marks = [mark_in(web, pits, lot) for lot in sharing]
    return None if None in marks else sorted(marks)


def no_marks(web, sharing):
    need_sharing(web, sharing)
    pits = hollows(web)
    lots = parting_told(sharing)
    for lot in lots:
        if not hangs_together(web, lot):
            return ("apart", lot)
    for lot in lots:
        if len(hollows_within(pits, lot)) == 0:
            return ("none", lot)
    for lot in lots:
        rows = low_rows(web, pits, lot)
        if rows is not None:
            return ("low", lot, rows)
    return None


def is_no_marks(web, sharing, thing):
    need_sharing(web, sharing)
    pits = hollows(web)
    lots = parting_told(sharing)
    if not is_list(thing) or len(thing) < 2 or not is_web_lot(web, thing[1]):
        return False
    lot = sorted(thing[1])
    if lot not in lots:
        return False
    if len(thing) == 2 and thing[0] == "apart":
        return not hangs_together(web, lot)
    if len(thing) == 2 and thing[0] == "none":
        return len(hollows_within(pits, lot)) == 0
    if len(thing) != 3 or thing[0] != "low":
        return False
    if any([not hangs_together(web, one) or len(hollows_within(pits, one)) == 0 for one in lots]):
        return False
    return are_low_rows(web, pits, lot, thing[2])


def are_low_rows(web, pits, lot, thing):
    """Whether any object is an ascending list of a hollow and a low tie for each hollow in a lot."""
    if not is_list(thing) or not all([is_row(row, 2) and is_web_lot(web, row[0]) for row in thing]):
        return False
    if [sorted(row[0]) for row in thing] != hollows_within(pits, lot):
        return False
    inner = web_within(web, lot)
    return all([is_low(web, inner, hollow, tie) for hollow, tie in thing])


def is_low(web, inner, hollow, thing):
    """Whether any object is a tie (place within, place without) by which a hollow is no mark."""
    if not is_row(thing, 2):
        return False
    place, near = thing
    if not inner.has_place(place) or not web.has_place(near) or inner.has_place(near):
        return False
    own = web.height(place, near)
    levels = levels_to(inner, [hollow])
    return own is not None and place in levels and own < levels[place]


def agreeing(web, priced):
    need_web(web)
    need_priced(priced)
    if priced.places() != web.places():
        raise OtherPlaces()
    pits = hollows(web)
    marks = {}
    told = []
    for price, parting in price_row(priced):
        for lot in parting:
            # most lots stand at several prices
            if tuple(lot) not in marks:
                marks[tuple(lot)] = mark_in(web, pits, lot)
        found = [marks[tuple(lot)] for lot in parting]
        if None not in found:
            told.append((price, sorted([list(hollow) for hollow in found])))
    return told
