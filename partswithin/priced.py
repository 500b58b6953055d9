"""Priced nests: lots within lots, each with a loss and a border."""

from partswithin.errors import BadLosses, BadRows, NoLot
from partswithin.forms import is_list, is_lot_of_names, is_number, is_row, rows_told


class Priced:
    """Lots within lots, each place alone among them; none loses less than its parts do."""

    def __init__(self, rows):
        fault = priced_fault(rows)
        if fault is not None:
            raise BadLosses(fault)
        self._weights = weights_by_lot(rows)
        self._parts = parts_by_lot(self._weights)

    def rows(self):
        return [(list(lot), loss, border) for lot, (loss, border) in self._weights.items()]

    def places(self):
        return [lot[0] for lot in self._weights if len(lot) == 1]

    def loss(self, lot):
        return self._weights[self._need_lot(lot)][0]

    def border(self, lot):
        return self._weights[self._need_lot(lot)][1]

    def parts(self, lot):
        return [list(part) for part in self._parts[self._need_lot(lot)]]

    def lot_told(self, thing):
        """The lot that any object has just the places of, as an ascending tuple; None if none."""
        if not is_list(thing) or not all([isinstance(place, str) for place in thing]):
            return None
        lot = tuple(sorted(thing))
        return lot if lot in self._weights else None

    def _need_lot(self, thing):
        lot = self.lot_told(thing)
        if lot is None:
            raise NoLot(thing)
        return lot

    def rising(self):
        """All lots, as tuples, so that each stands behind those within it."""
        return list(self._parts)

    def weighs(self, lot):
        """The loss and the border of a lot that is passed, and told, as a tuple."""
        return self._weights[lot]

    def parts_told(self, lot):
        """The parts of a lot that is passed, and told, as a tuple."""
        return list(self._parts[lot])

    def __eq__(self, other):
        return isinstance(other, Priced) and self._weights == other._weights


def weights_by_lot(rows):
    """The dict from each lot, ascending, as a tuple, to its loss and its border."""
    return {tuple(lot): (loss, border) for lot, loss, border in rows_told(rows)}


def parts_by_lot(lots):
    """The dict from each of these tuples, lesser ones first, to its parts, ascending."""
    greatest = {}
    parts = {}
    for lot in sorted(lots, key=len):
        # among lots that are not greater the last one with a place is the greatest
        parts[lot] = sorted(set([greatest[place] for place in lot if place in greatest]))
        for place in lot:
            greatest[place] = lot
    return parts


def priced_fault(rows):
    check_rows(rows)
    weights = weights_by_lot(rows)
    for place in sorted(set([place for lot in weights for place in lot])):
        if (place,) not in weights:
            return ("place", place)
    parts = parts_by_lot(weights)
    for lot, (loss, border) in weights.items():
        if len(parts[lot]) > 0:
            if loss < sum([weights[part][0] for part in parts[lot]]):
                return ("loss", list(lot))
            if border > sum([weights[part][1] for part in parts[lot]]):
                return ("border", list(lot))
    return None


def check_rows(rows):
    """Raises BadRows for the first row that is none, or whose lot stood before or crosses one ahead."""
    if not is_list(rows):
        raise BadRows(0)
    numbers = {}
    ahead = []
    for index, row in enumerate(rows):
        if not is_priced_row(row):
            raise BadRows(index)
        # a lot as an integer, with a bit for each place, is soon compared with all others
        bits = sum([1 << numbers.setdefault(place, len(numbers)) for place in row[0]])
        if any([bits == other or crosses(bits, other) for other in ahead]):
            raise BadRows(index)
        ahead.append(bits)


def crosses(one, other):
    """Whether two lots of bits share some, and each has one that the other has not."""
    return one & other not in (0, one, other)


def is_priced_row(thing):
    """Whether this is a triple of a lot, a loss and a border."""
    return is_row(thing, 3) and is_lot_of_names(thing[0]) and is_number(thing[1]) and is_number(thing[2])
