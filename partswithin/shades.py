"""Priced nests of pictures: lots of places, losing as their shades are apart."""

from partswithin.checks import is_web_lot
from partswithin.errors import BadLots
from partswithin.forms import is_list
from partswithin.pictures import picture_web, place_name
from partswithin.priced import Priced, crosses


def picture_priced(picture, lots):
    web = picture_web(picture)
    check_lots(web, lots)
    shades = {place_name(at, column): shade for at, row in enumerate(picture) for column, shade in enumerate(row)}
    every = list(lots) + [[place] for place in web.places()]
    return Priced([(lot, loss_of([shades[place] for place in lot]), border_of(web, lot)) for lot in every])


def check_lots(web, lots):
    """Raises BadLots for the first lot that is none, or stood before or crosses one ahead."""
    if not is_list(lots):
        raise BadLots(0)
    bits = {place: 1 << at for at, place in enumerate(web.places())}
    ahead = []
    for index, lot in enumerate(lots):
        if not is_web_lot(web, lot) or len(lot) < 2:
            raise BadLots(index)
        own = sum([bits[place] for place in lot])
        if any([own == other or crosses(own, other) for other in ahead]):
            raise BadLots(index)
        ahead.append(own)


def loss_of(shades):
    return len(shades) * sum([shade * shade for shade in shades]) - sum(shades) ** 2


def border_of(web, lot):
    """How many ties lead out of a lot."""
    inside = {place: True for place in lot}
    return len([tie for tie in web.ties() if (tie[0] in inside) != (tie[1] in inside)])
