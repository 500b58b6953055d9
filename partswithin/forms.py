"""Whether things, of whatever kind, have the forms that the whole package asks for."""

from math import gcd

LETTERS = "abcdefghijklmnopqrstuvwxyz"
FIGURES = "0123456789"
NAME_SIGNS = "abcdefghijklmnopqrstuvwxyz0123456789"
MOST_SIGNS = 8
BARRED = ("place", "tie", "lot", "at", "loss", "border", "price", "join",
          "part", "fall", "drop", "mark", "watch", "hold")


def is_list(thing):
    """Tuples pass for lists, and lists for tuples, everywhere."""
    return isinstance(thing, (list, tuple))


def is_row(thing, many):
    """Whether this is a list or a tuple of just so many things."""
    return is_list(thing) and len(thing) == many


def is_integer(thing):
    return isinstance(thing, int) and not isinstance(thing, bool)


def is_number(thing):
    return is_integer(thing) and thing >= 0


def begins_name(text):
    """Whether some name begins with this text, or is it, if no word were barred."""
    if text == "" or len(text) > MOST_SIGNS or text[0] not in LETTERS:
        return False
    return all([sign in NAME_SIGNS for sign in text])


def is_name(thing):
    return isinstance(thing, str) and begins_name(thing) and thing not in BARRED


def are_unlike(things):
    """Whether no two of these strings, or tuples of strings, are the same."""
    return len(set(things)) == len(things)


def is_lot_of_names(thing):
    """Whether this is a list of unlike names, one at least."""
    if not is_list(thing) or len(thing) == 0:
        return False
    return all([is_name(name) for name in thing]) and are_unlike(thing)


def is_fraction(thing):
    if not is_row(thing, 2) or not all([is_integer(part) for part in thing]):
        return False
    over, under = thing
    return under > 0 and gcd(over, under) == 1


def is_price(thing):
    return is_fraction(thing) and thing[0] >= 0


def pair_told(one, other):
    """A tie's two places, the lesser one first."""
    return (one, other) if one < other else (other, one)


def lot_indexes(lots):
    """The dict from each place of these lots to the index of its lot."""
    return {place: index for index, lot in enumerate(lots) for place in lot}


def rows_told(rows):
    """Rows that begin with lots as they are told: lots ascending, and names in them."""
    return sorted([(sorted(row[0]), *row[1:]) for row in rows])
