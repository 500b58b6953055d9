"""What functions over webs ask of what they are passed, and the errors that they raise."""

from partswithin.errors import BadHeight, BadWeb, NoPlace, SamePlace
from partswithin.forms import are_unlike, is_integer, is_list, is_row, pair_told
from partswithin.webs import Web


def need_web(web):
    if not isinstance(web, Web):
        raise BadWeb(web)


def need_place(web, place):
    need_web(web)
    if not web.has_place(place):
        raise NoPlace(place)


def need_two_places(web, one, other):
    need_place(web, one)
    need_place(web, other)
    if one == other:
        raise SamePlace(other)


def need_height(height):
    if not is_integer(height):
        raise BadHeight(height)


def is_web_lot(web, thing):
    """Whether any object is a list of unlike places of the web, one at least."""
    if not is_list(thing) or len(thing) == 0:
        return False
    return all([web.has_place(place) for place in thing]) and are_unlike(thing)


def tie_told(web, thing):
    """The tie of the web that any object is, lesser place first; None if it is none."""
    if not is_row(thing, 2):
        return None
    one, other = thing
    if not web.has_place(one) or not web.has_place(other) or web.height(one, other) is None:
        return None
    return pair_told(one, other)
