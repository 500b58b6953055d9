"""Tables: a level for each tie of a web, and the nests that they are of."""

from partswithin.checks import need_web, tie_told
from partswithin.errors import BadNest, BadTable
from partswithin.forms import are_unlike, is_integer, is_list, is_row
from partswithin.nests import is_nest, joined_nest
from partswithin.walks import row_to


def need_nest(web, nest):
    if not is_nest(nest) or not all([web.has_place(place) for lot, _ in nest for place in lot]):
        raise BadNest(nest)


def table_of(web, nest):
    need_web(web)
    need_nest(web, nest)
    lots = [({place: True for place in lot}, level) for lot, level in nest]
    table = []
    for one, other, _ in web.ties():
        levels = [level for lot, level in lots if one in lot and other in lot]
        table.append((one, other, min(levels, default=None)))
    return table


def level_nest(web):
    need_web(web)
    return joined_nest(web.places(), web.ties())


def is_table(web, thing):
    """Whether any object is a list of triples with a level, or None, for each tie of the web."""
    if not is_list(thing) or not all([is_row(row, 3) for row in thing]):
        return False
    ties = [tie_told(web, row[:2]) for row in thing]
    if not all([tie is not None for tie in ties]) or not are_unlike(ties):
        return False
    return len(ties) == len(web.ties()) and all([is_level(row[2]) for row in thing])


def is_level(thing):
    return thing is None or is_integer(thing)


def need_table(web, table):
    need_web(web)
    if not is_table(web, table):
        raise BadTable(table)


def table_told(web, table):
    """The table, ascending, with the lesser place first in each row."""
    levels = {tie_told(web, row[:2]): row[2] for row in table}
    return [(one, other, levels[(one, other)]) for one, other, _ in web.ties()]


def nest_of_table(web, table):
    need_table(web, table)
    told = table_told(web, table)
    nest = joined_nest(web.places(), [row for row in told if row[2] is not None])
    # in a table of some nest no tie lies above the level at which others join its ends:
    # then it is the table of this nest, too
    return nest if table_of(web, nest) == told else None


def table_ring(web, table):
    need_table(web, table)
    told = table_told(web, table)
    for one, other, level in told:
        ring = way_below(told, one, other, level)
        if ring is not None:
            return ring
    return None


def way_below(told, one, other, level):
    """A way from the one to the other over ties of lesser levels alone, None if there is none."""
    near = {one: [], other: []}
    for low, high, own in told:
        if is_less(own, level):
            near.setdefault(low, []).append(high)
            near.setdefault(high, []).append(low)
    return row_to(one, lambda place: near[place], lambda stop: stop == other)


def is_less(one, other):
    """Whether the one level is less than the other, None being above all."""
    return one is not None and (other is None or one < other)
