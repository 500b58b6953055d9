"""Audits of somebody's partings by ridges, and of the ties that are to show them."""

from partswithin.audits import behind_lines, first_form, first_wrong
from partswithin.forests import exchange
from partswithin.forms import lot_indexes
from partswithin.hollows import hollows, hollows_by_place
from partswithin.joined import Joined
from partswithin.levels import hangs_together
from partswithin.lottexts import lots_fault, read_lots, read_ties, ties_fault
from partswithin.partings import has_just_one
from partswithin.webtexts import read_web, web_fault


def audit_ridges(web_text, lots_text, ties_text):
    wrong = first_form([("web", web_fault(web_text)), ("lots", lots_fault(lots_text)),
                        ("ties", ties_fault(ties_text))])
    if wrong is not None:
        return wrong
    web = read_web(web_text)
    wrong = lots_audit(web, lots_text)
    return ties_audit(web, read_lots(lots_text), ties_text) if wrong is None else wrong


def lots_audit(web, lots_text):
    owners = hollows_by_place(web)

    def why_wrong(lot):
        if not hangs_together(web, lot):
            return "apart"
        return None if has_just_one(owners, lot) else "hollows"

    wrong = first_wrong("lots", lots_text, web.places(), why_wrong)
    if wrong is None and len(lot_indexes(read_lots(lots_text))) < len(web.places()):
        return behind_lines("lots", lots_text, "lacks")
    return wrong


def ties_audit(web, lots, ties_text):
    owners = hollows_by_place(web)
    indexes = lot_indexes(lots)
    joined = Joined(web.places())
    for hollow in hollows(web):
        joined.unite_all(hollow)

    def why_wrong(tie):
        one, other = tie
        if web.height(one, other) is None:
            return "tie"
        if one in owners and owners[one] == owners.get(other):
            return "within"
        if indexes[one] != indexes[other]:
            return "out"
        return None if joined.unite(one, other) else "ring"

    wrong = first_wrong("ties", ties_text, web.places(), why_wrong, " ")
    if wrong is not None:
        return wrong
    # no tie leads out of a lot, and each has one hollow
    if joined.lots() != lots:
        return behind_lines("ties", ties_text, "lacks")
    if exchange(web, hollows(web), read_ties(ties_text)) is not None:
        return behind_lines("ties", ties_text, "less")
    return None
