"""Texts of lots, and of ties without heights, written and read."""

from partswithin.errors import BadForm
from partswithin.forms import are_unlike, is_list, is_lot_of_names, is_name, is_row, pair_told
from partswithin.namestock import NameStock
from partswithin.signs import Signs, fault_of, read_lot, read_name


def are_lots(thing):
    """Whether any object is a list of lots of names, no name twice in all of them."""
    if not is_list(thing) or not all([is_lot_of_names(lot) for lot in thing]):
        return False
    return are_unlike([name for lot in thing for name in lot])


def names_text(lot):
    return ", ".join(lot)


def lots_text(lots):
    if not are_lots(lots):
        raise BadForm(lots)
    told = sorted([sorted(lot) for lot in lots])
    return "".join([f"lot {names_text(lot)}\n" for lot in told])


def read_lots(text):
    return read_lot_lines(Signs(text))


def read_lot_lines(signs):
    """All the lots from here on, one a line."""
    stock = NameStock()
    lots = []
    while not signs.ended():
        signs.one_of(["lot "])
        lots.append(read_lot(signs, stock, {}, "\n"))
    return sorted(lots)


def lots_fault(text):
    return fault_of(read_lots, text)


def is_pair_of_names(thing):
    if not is_row(thing, 2):
        return False
    one, other = thing
    return is_name(one) and is_name(other) and one != other


def are_ties(thing):
    """Whether any object is a list of pairs of unlike names, each two once."""
    if not is_list(thing) or not all([is_pair_of_names(tie) for tie in thing]):
        return False
    return are_unlike([pair_told(one, other) for one, other in thing])


def ties_text(ties):
    if not are_ties(ties):
        raise BadForm(ties)
    told = sorted([pair_told(one, other) for one, other in ties])
    return "".join([f"tie {one} {other}\n" for one, other in told])


def read_ties(text):
    signs = Signs(text)
    any_name = NameStock()
    left = {}
    ties = []
    while not signs.ended():
        signs.one_of(["tie "])
        one = read_name(signs, any_name)
        signs.one_of([" "])
        other = read_name(signs, stock_beside(left, one))
        signs.one_of(["\n"])
        stock_beside(left, one).grab(other)
        stock_beside(left, other).grab(one)
        ties.append(pair_told(one, other))
    return sorted(ties)


def stock_beside(left, name):
    """The stock of all names to which this one is not tied yet, made when it is first asked for."""
    if name not in left:
        left[name] = NameStock()
        left[name].grab(name)
    return left[name]


def ties_fault(text):
    return fault_of(read_ties, text)
