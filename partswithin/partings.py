"""Partings: lots that have all places, each with a hollow; and those that choices of falls make."""

from partswithin.checks import is_web_lot, need_web
from partswithin.errors import BadParting
from partswithin.forms import is_list, lot_indexes
from partswithin.hollows import hollows, hollows_by_place
from partswithin.joined import Joined
from partswithin.levels import hangs_together
from partswithin.walks import walk
from partswithin.whose import rises


def are_web_lots(web, thing):
    """Whether any object is a list of lists of unlike places of the web, one at least in each."""
    return is_list(thing) and all([is_web_lot(web, lot) for lot in thing])


def is_sharing(web, thing):
    """Whether any object is a list of lots that have all places of the web, each once."""
    if not are_web_lots(web, thing):
        return False
    return sorted([place for lot in thing for place in lot]) == web.places()


def has_just_one(owners, lot):
    """Whether the lot has one hollow, or root, whole, and no place of another one.

    owners is the dict from each place of such a one to it.
    """
    owned = [owners[place] for place in lot if place in owners]
    if len(owned) == 0 or len(owned) != len(owned[0]):
        return False
    return all([owner[0] == owned[0][0] for owner in owned])


def lots_wrong(web, owners, word, thing):
    """Why any object is no list of lots that are right: ("form",), ("apart", index), (word, index).

    It is None for lots that hang together and have just one of what owners tells, each.
    """
    if not is_sharing(web, thing):
        return ("form",)
    for index, lot in enumerate(thing):
        if not hangs_together(web, lot):
            return ("apart", index)
    for index, lot in enumerate(thing):
        if not has_just_one(owners, lot):
            return (word, index)
    return None


def parting_wrong(web, thing):
    """Why any object is no parting: ("form",), ("apart", index), ("hollows", index); else None."""
    return lots_wrong(web, hollows_by_place(web), "hollows", thing)


def need_parting(web, parting):
    need_web(web)
    if parting_wrong(web, parting) is not None:
        raise BadParting(parting)


def parting_told(parting):
    return sorted([sorted(lot) for lot in parting])


def ties_between(web, parting):
    """The triples (one, other, height) of the ties between unlike lots."""
    indexes = lot_indexes(parting)
    return [tie for tie in web.ties() if indexes[tie[0]] != indexes[tie[1]]]


def choices_within(web, parting):
    """The dict from each place from which falls within its lot lead to the lot's hollow.

    It is to the place to which such a one falls, None in a hollow; from the hollows up.
    """
    indexes = lot_indexes(parting)
    above = rises(web)

    def steps(place):
        return [near for near in above[place] if indexes[near] == indexes[place]]

    return walk(hollows_by_place(web), steps)


def lots_chosen(web, choices):
    """The parting that comes of choices: a place to which it falls for each that is in no hollow."""
    joined = Joined(web.places())
    for hollow in hollows(web):
        joined.unite_all(hollow)
    for place, near in choices.items():
        if near is not None:
            joined.unite(place, near)
    return joined.lots()


def parting_along(web, rows):
    """A parting by ridges in which each of these rows of falls to a hollow lies in one lot.

    Where a row comes to a place of one ahead it goes on as that one does.
    """
    choices = {place: None for place in hollows_by_place(web)}
    for row in rows:
        for place, near in zip(row, row[1:]):
            choices.setdefault(place, near)
    above = rises(web)
    ahead = walk(choices, lambda place: above[place])
    return lots_chosen(web, {**ahead, **choices})
