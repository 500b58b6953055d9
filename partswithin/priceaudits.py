"""Audits of somebody's joins, and of claims of what is best at a price."""

from partswithin.audits import behind_lines, first_form, first_wrong
from partswithin.errors import BadLosses, BadRows
from partswithin.forms import lot_indexes
from partswithin.joining import ends_by_lot, joins_by_lot
from partswithin.nesttexts import (claim_fault, joins_fault, priced_text_fault, read_claim, read_joins,
                                   read_priced)
from partswithin.priced import Priced
from partswithin.prices import is_below
from partswithin.worths import need_priced


def joins_for(priced):
    need_priced(priced)
    return sorted([(list(lot), price) for lot, price in joins_by_lot(priced).items()
                   if len(lot) > 1 and price is not None])


def priced_of(text):
    """The priced nest whose rows a text tells; None if they are none's."""
    try:
        return Priced(read_priced(text))
    except (BadRows, BadLosses):
        return None


def audit_joins(priced_text, joins_text):
    wrong = first_form([("priced", priced_text_fault(priced_text)), ("joins", joins_fault(joins_text))])
    if wrong is not None:
        return wrong
    priced = priced_of(priced_text)
    if priced is None:
        return ("priced", 0, 0, "nest")
    joins = {tuple(lot): price for lot, price in joins_for(priced)}
    told = {tuple(lot): price for lot, price in read_joins(joins_text)}

    def why_wrong(names):
        lot = tuple(sorted(names))
        if len(lot) < 2 or priced.lot_told(lot) is None:
            return "lot"
        return None if told[lot] == joins.get(lot) else "price"

    wrong = first_wrong("joins", joins_text, priced.places(), why_wrong)
    if wrong is None and len(told) < len(joins):
        return behind_lines("joins", joins_text, "lacks")
    return wrong


def audit_claim(priced_text, joins_text, claim_text):
    wrong = first_form([("priced", priced_text_fault(priced_text)), ("joins", joins_fault(joins_text)),
                        ("claim", claim_fault(claim_text))])
    if wrong is None:
        wrong = audit_joins(priced_text, joins_text)
    return best_audit(priced_of(priced_text), claim_text) if wrong is None else wrong


def best_audit(priced, claim_text):
    price, lots = read_claim(claim_text)
    joins = joins_by_lot(priced)
    ends = ends_by_lot(priced, joins)

    def why_wrong(names):
        lot = priced.lot_told(names)
        if lot is None:
            return "lot"
        if is_below(price, joins[lot]):
            return "early"
        return None if is_below(price, ends[lot]) else "late"

    # the price stands in the first line
    wrong = first_wrong("claim", claim_text, priced.places(), why_wrong, skipped=1)
    if wrong is None and len(lot_indexes(lots)) < len(priced.places()):
        return behind_lines("claim", claim_text, "lacks")
    return wrong
