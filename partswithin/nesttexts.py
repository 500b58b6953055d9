"""Texts of nests, of priced lots, of joins and of claims, written and read."""

from partswithin.errors import BadForm
from partswithin.forms import (are_unlike, is_integer, is_list, is_lot_of_names, is_number,
                               is_price, is_row, rows_told)
from partswithin.lottexts import are_lots, lots_text, names_text, read_lot_lines
from partswithin.namestock import NameStock
from partswithin.signs import (Signs, fault_of, read_fraction, read_integer, read_lot,
                               read_number)


def are_lot_rows(thing, many):
    """Whether any object is a list of rows of so many things, a lot first, lots unlike."""
    if not is_list(thing) or not all([is_row(row, many) for row in thing]):
        return False
    if not all([is_lot_of_names(row[0]) for row in thing]):
        return False
    return are_unlike([tuple(sorted(row[0])) for row in thing])


def read_rows(text, word, close, read_rest):
    """Lines of a word, a lot, what closes it, and what read_rest tells as a tuple."""
    signs = Signs(text)
    stood = {}
    rows = []
    while not signs.ended():
        signs.one_of([word])
        lot = read_lot(signs, NameStock(), stood, close)
        stood[tuple(lot)] = True
        rest = read_rest(signs)
        signs.one_of(["\n"])
        rows.append((lot, *rest))
    return sorted(rows)


def nest_text(nest):
    if not are_lot_rows(nest, 2) or not all([is_integer(row[1]) for row in nest]):
        raise BadForm(nest)
    return "".join([f"lot {names_text(lot)} at {level}\n" for lot, level in rows_told(nest)])


def read_nest(text):
    return read_rows(text, "lot ", " at ", read_level)


def read_level(signs):
    return (read_integer(signs),)


def nest_fault(text):
    return fault_of(read_nest, text)


def are_priced_rows(thing):
    """Whether any object is a list of triples of a lot, a loss and a border, lots unlike."""
    if not are_lot_rows(thing, 3):
        return False
    return all([is_number(row[1]) and is_number(row[2]) for row in thing])


def priced_text(rows):
    if not are_priced_rows(rows):
        raise BadForm(rows)
    return "".join([f"lot {names_text(lot)} loss {loss} border {border}\n"
                    for lot, loss, border in rows_told(rows)])


def read_priced(text):
    return read_rows(text, "lot ", " loss ", read_loss_and_border)


def read_loss_and_border(signs):
    loss = read_number(signs)
    signs.one_of([" border "])
    return (loss, read_number(signs))


def priced_text_fault(text):
    return fault_of(read_priced, text)


def price_text(price):
    over, under = price
    return f"{over}" if under == 1 else f"{over}/{under}"


def joins_text(rows):
    if not are_lot_rows(rows, 2) or not all([is_price(row[1]) for row in rows]):
        raise BadForm(rows)
    return "".join([f"join {names_text(lot)} at {price_text(price)}\n"
                    for lot, price in rows_told(rows)])


def read_joins(text):
    return read_rows(text, "join ", " at ", read_price)


def read_price(signs):
    return (read_fraction(signs),)


def joins_fault(text):
    return fault_of(read_joins, text)


def claim_text(claim):
    if not is_row(claim, 2) or not is_price(claim[0]) or not are_lots(claim[1]):
        raise BadForm(claim)
    price, lots = claim
    return f"price {price_text(price)}\n" + lots_text(lots)


def read_claim(text):
    signs = Signs(text)
    signs.one_of(["price "])
    price = read_fraction(signs)
    signs.one_of(["\n"])
    return (price, read_lot_lines(signs))


def claim_fault(text):
    return fault_of(read_claim, text)
