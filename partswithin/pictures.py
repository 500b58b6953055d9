"""Pictures: rows of shades, and the webs that they make."""

from partswithin.errors import BadPicture
from partswithin.forms import is_integer, is_list
from partswithin.webs import Web


def is_picture(thing):
    """Whether any object is rows of shades, each as long as the first one."""
    if not is_list(thing) or not all([is_list(row) for row in thing]):
        return False
    if not all([len(row) > 0 and len(row) == len(thing[0]) for row in thing]):
        return False
    return all([is_integer(shade) for row in thing for shade in row])


def need_picture(picture):
    if not is_picture(picture):
        raise BadPicture(picture)


def picture_web(picture):
    need_picture(picture)
    shades = {}
    for at, row in enumerate(picture):
        for column, shade in enumerate(row):
            shades[(at, column)] = shade
    ties = []
    for at, column in shades:
        for near in ((at, column + 1), (at + 1, column)):
            if near in shades:
                apart = abs(shades[(at, column)] - shades[near])
                ties.append((place_name(at, column), place_name(near[0], near[1]), apart))
    return Web([place_name(at, column) for at, column in shades], ties)


def place_name(row, column):
    return f"r{row}c{column}"
