"""Points [63] to [65]: audits of joins, and of claims of what is best at a price."""

import inspect
import random
import unittest
from fractions import Fraction

import nests
from helpers import V, check_errors, mutations, odd_objects
from partswithin.best import coarsest
from partswithin.errors import BadPriced
from partswithin.nesttexts import (claim_fault, claim_text, joins_fault, joins_text, priced_text, priced_text_fault,
                                   read_claim, read_joins, read_priced)
from partswithin.priceaudits import audit_claim, audit_joins, joins_for
from partswithin.priced import Priced, priced_fault
from test_stretches import plain_join

NEST = Priced(V)
ROWS = priced_text(V)
JOINS = "join a, b at 1\njoin a, b, c, d at 12/5\njoin c, d at 2\n"
ODD_TEXTS = [thing for thing in odd_objects() if not isinstance(thing, str)]


def plain_rows_fault(rows):
    """Whether rows, lots unlike, are none of a priced nest, found by looking at each two lots."""
    for lot, _, _ in rows:
        for other, _, _ in rows:
            if set(lot) & set(other) and not set(lot) <= set(other) and not set(other) <= set(lot):
                return True
    return priced_fault(rows) is not None


def first_strange(line, places):
    """The sign of a line's first name that is no place, None if there is none."""
    at = line.index(" ") + 1
    for name in line[at:].split(" at ")[0].split(", "):
        if name not in places:
            return at + 1
        at += len(name) + 2
    return None


def plain_joins_audit(rows_told, joins_told):
    """The audit by the words of [63]."""
    for which, fault in (("priced", priced_text_fault(rows_told)), ("joins", joins_fault(joins_told))):
        if fault is not None:
            return (which, *fault, "form")
    rows = read_priced(rows_told)
    if plain_rows_fault(rows):
        return ("priced", 0, 0, "nest")
    priced = Priced(rows)
    right = {tuple(lot): plain_join(priced, lot) for lot, _, _ in rows if len(lot) > 1}
    told = {tuple(lot): price for lot, price in read_joins(joins_told)}
    lines = joins_told.splitlines()
    for number, line in enumerate(lines, 1):
        strange = first_strange(line, priced.places())
        if strange is not None:
            return ("joins", number, strange, "who")
        lot = tuple(sorted(line[5:].split(" at ")[0].split(", ")))
        if lot not in right:
            return ("joins", number, 1, "lot")
        if right[lot] != told[lot]:
            return ("joins", number, 1, "price")
    missing = [lot for lot, price in right.items() if price is not None and lot not in told]
    return ("joins", len(lines) + 1, 1, "lacks") if missing else None


def plain_claim_audit(rows_told, joins_told, claim_told):
    """The audit by the words of [64]."""
    for which, fault in (("priced", priced_text_fault(rows_told)), ("joins", joins_fault(joins_told)),
                         ("claim", claim_fault(claim_told))):
        if fault is not None:
            return (which, *fault, "form")
    wrong = plain_joins_audit(rows_told, joins_told)
    if wrong is not None:
        return wrong
    priced = Priced(read_priced(rows_told))
    joins = {tuple(lot): plain_join(priced, lot) for lot, _, _ in priced.rows()}
    price, lots = read_claim(claim_told)
    early = {lot: joins[lot] is None or Fraction(*joins[lot]) > Fraction(*price) for lot in joins}
    lines = claim_told.splitlines()
    for number, line in enumerate(lines[1:], 2):
        strange = first_strange(line, priced.places())
        if strange is not None:
            return ("claim", number, strange, "who")
        lot = tuple(sorted(line[4:].split(", ")))
        why = "lot" if lot not in joins else "early" if early[lot] else None
        if why is None and any(set(lot) < set(other) and not early[other] for other in joins):
            why = "late"
        if why:
            return ("claim", number, 1, why)
    return ("claim", len(lines) + 1, 1, "lacks") if sum(map(len, lots)) < len(priced.places()) else None


class Joins(unittest.TestCase):

    def test_the_examples(self):
        self.assertEqual(joins_for(NEST), [(["a", "b"], (1, 1)), (["a", "b", "c", "d"], (12, 5)), (["c", "d"], (2, 1))])
        self.assertEqual(joins_text(joins_for(NEST)), JOINS)
        self.assertIsNone(audit_joins(ROWS, JOINS))
        self.assertEqual(audit_joins(ROWS, "join a, b at 1\njoin a, b, c, d at 12/5\n"), ("joins", 3, 1, "lacks"))

    def test_each_word(self):
        lines = JOINS.splitlines(True)
        for told, right in (("".join(lines[::-1]), None), ("join d, c, b, a at 12/5\n" + lines[0] + "join d, c at 2\n", None),
                            (JOINS + "join a, zz at 3\n", ("joins", 4, 9, "who")), ("join q at 1\n", ("joins", 1, 6, "who")),
                            (lines[0] + "join a at 0\n", ("joins", 2, 1, "lot")), ("join a, c at 0\n", ("joins", 1, 1, "lot")),
                            ("join a, b at 2\n" + lines[1], ("joins", 1, 1, "price")), ("", ("joins", 1, 1, "lacks"))):
            self.assertEqual(audit_joins(ROWS, told), right)
        never = priced_text([(["a"], 0, 1), (["b"], 0, 1), (["a", "b"], 1, 2)])
        self.assertEqual(audit_joins(never, "join a, b at 1\n"), ("joins", 1, 1, "price"))
        self.assertEqual((audit_joins(never, ""), audit_joins("", "")), (None, None))

    def test_form_and_no_nest(self):
        self.assertEqual(audit_joins("lot a", "join"), ("priced", 1, 6, "form"))
        self.assertEqual(audit_joins(ROWS, "join a at 6/4\n"), ("joins", 1, 14, "form"))
        crossing = "lot a, b loss 0 border 1\nlot b, c loss 0 border 1\n"
        for rows in (crossing, "lot a, b loss 0 border 1\n", priced_text([(["a"], 2, 0), (["b"], 0, 0), (["a", "b"], 1, 0)]),
                     priced_text([(["a"], 0, 0), (["b"], 0, 0), (["a", "b"], 1, 1)])):
            self.assertEqual(audit_joins(rows, "join zz at 1\n"), ("priced", 0, 0, "nest"))
            self.assertEqual(audit_joins(rows, "join"), ("joins", 1, 5, "form"))
            self.assertEqual(audit_claim(rows, "", "price 1\nlot a\n"), ("priced", 0, 0, "nest"))
        for thing in ODD_TEXTS:
            self.assertEqual(audit_joins(thing, thing), ("priced", 0, 0, "form"))
            self.assertEqual(audit_joins(ROWS, thing), ("joins", 0, 0, "form"))

    def test_over_small_nests(self):
        source = random.Random(250)
        words = {}
        for priced in nests.small_nests(250, 40, 5):
            rows = priced.rows()
            self.assertEqual(joins_for(priced), [(lot, plain_join(priced, lot)) for lot, _, _ in rows
                                                 if len(lot) > 1 and plain_join(priced, lot) is not None])
            joins = joins_text(joins_for(priced))
            self.assertIsNone(audit_joins(priced_text(rows), joins))
            changed = ["".join(source.sample(joins.splitlines(True), joins.count("\n"))), joins[:joins.rfind("join")]]
            changed += [joins + f"join {', '.join(lot)} at 2\n" for lot, _, _ in rows[:3]]
            for told in changed + list(mutations([joins], "abcdj, 0123/\n", source.random(), 25)):
                for rows_told in (priced_text(rows), source.choice(list(mutations([priced_text(rows)], "ab 012\n", 1, 20)))):
                    found = audit_joins(rows_told, told)
                    self.assertEqual(found, plain_joins_audit(rows_told, told))
                    words[found and found[3]] = words.get(found and found[3], 0) + 1
        self.assertEqual(set(words), {None, "form", "nest", "who", "lot", "price", "lacks"})


class Claims(unittest.TestCase):

    def test_the_examples(self):
        for claim, right in (("price 3/2\nlot a, b\nlot c\nlot d\n", None), ("price 3/2\nlot a\nlot b\nlot c\nlot d\n",
                                                                              ("claim", 2, 1, "late")),
                             ("price 1/2\nlot a\nlot b\nlot c, d\n", ("claim", 4, 1, "early"))):
            self.assertEqual(audit_claim(ROWS, JOINS, claim), right)

    def test_each_word(self):
        for claim, right in (("price 1\nlot d\nlot c\nlot b, a\n", None), ("price 0\nlot a\nlot b, x\n", ("claim", 3, 8, "who")),
                             ("price 0\nlot a\nlot b, c\nlot x\n", ("claim", 3, 1, "lot")), ("price 0\n", ("claim", 2, 1, "lacks")),
                             ("price 12/5\nlot a, d, c, b\n", None), ("price 12/5\nlot a, b\n", ("claim", 2, 1, "late")),
                             ("price 2\nlot c, d\n", ("claim", 3, 1, "lacks")), ("price 2", ("claim", 1, 8, "form")),
                             ("price 1\nlot a, b\nlot a\n", ("claim", 3, 6, "form"))):
            self.assertEqual(audit_claim(ROWS, JOINS, claim), right)
        self.assertEqual(audit_claim("", "", "price 5/7\n"), None)
        never = priced_text([(["a"], 0, 1), (["b"], 0, 1), (["a", "b"], 1, 2)])
        self.assertEqual(audit_claim(never, "", "price 9\nlot b, a\n"), ("claim", 2, 1, "early"))

    def test_what_comes_first(self):
        self.assertEqual(audit_claim("lot", "join", "price"), ("priced", 1, 4, "form"))
        self.assertEqual(audit_claim(ROWS, "join", "price"), ("joins", 1, 5, "form"))
        self.assertEqual(audit_claim(ROWS, "join a, b at 2\n", "price"), ("claim", 1, 6, "form"))
        self.assertEqual(audit_claim(ROWS, "join a, b at 2\n", "price 1\n"), ("joins", 1, 1, "price"))
        for thing in ODD_TEXTS:
            self.assertEqual(audit_claim(thing, thing, thing), ("priced", 0, 0, "form"))
            self.assertEqual(audit_claim(ROWS, thing, thing), ("joins", 0, 0, "form"))
            self.assertEqual(audit_claim(ROWS, JOINS, thing), ("claim", 0, 0, "form"))

    def test_a_claim_is_let_by_just_if_its_lots_are_the_coarsest_best_parting(self):
        source = random.Random(251)
        let_by = 0
        for priced in nests.small_nests(251, 40):
            rows, joins = priced_text(priced.rows()), joins_text(joins_for(priced))
            for price in source.sample(nests.PRICES[:7], 4) + [row[1] for row in joins_for(priced)]:
                for lots in nests.all_partings(priced):
                    told = audit_claim(rows, joins, claim_text((price, lots)))
                    self.assertEqual(told is None, lots == coarsest(priced, price))
                    let_by += told is None
        self.assertGreater(let_by, 100)

    def test_changed_claims(self):
        source = random.Random(252)
        words = {}
        for priced in nests.small_nests(252, 40, 5):
            rows, joins = priced_text(priced.rows()), joins_text(joins_for(priced))
            for price in [row[1] for row in joins_for(priced)] + [(1, 2), (7, 1)]:
                for lots in source.sample(nests.all_partings(priced), 1) + [coarsest(priced, price)]:
                    claim = claim_text((price, lots))
                    first, *rest = claim.splitlines(True)
                    turned = first + "".join(source.sample(rest, len(rest)))
                    others = [turned, "".join([first] + rest[1:]), first + "lot a, c\n", "".join([first] + rest[:-1]) + "lot d, b\n"]
                    for told in list(mutations([claim], "abcde, 012/\n", source.random(), 8)) + others:
                        found = audit_claim(rows, joins, told)
                        self.assertEqual(found, plain_claim_audit(rows, joins, told))
                        words[found and found[3]] = words.get(found and found[3], 0) + 1
        self.assertEqual(set(words), {None, "form", "who", "lot", "early", "late", "lacks"})

    def test_four_hundred_lots(self):
        priced = Priced(nests.halves(200))
        rows, joins = priced_text(priced.rows()), joins_text(joins_for(priced))
        self.assertIsNone(audit_joins(rows, joins))
        for price in ((0, 1), (7, 3), (500, 1)):
            self.assertIsNone(audit_claim(rows, joins, claim_text((price, coarsest(priced, price)))))

    def test_names_and_wrong_things(self):
        self.assertEqual(list(inspect.signature(audit_joins).parameters), ["priced_text", "joins_text"])
        self.assertEqual(list(inspect.signature(audit_claim).parameters), ["priced_text", "joins_text", "claim_text"])
        check_errors(self, ((joins_for, ["priced"]),), {"priced": NEST}, {"priced": (odd_objects() + [V, ROWS], BadPriced)})


if __name__ == "__main__":
    unittest.main()
