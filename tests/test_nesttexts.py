"""Point [13]: texts of nests, priced lots, joins and claims."""

import math
import unittest

from helpers import BARRED, FRACTION, INTEGER, LOT, NONE, NUMBER, V, a_function, can_go_on_by, first_fault
from helpers import lines_of, match, mutations, odd_objects, raised
from partswithin.errors import BadForm, BadText
from partswithin.nesttexts import (claim_fault, claim_text, joins_fault, joins_text, nest_fault,
                                   nest_text, priced_text, priced_text_fault, read_claim, read_joins,
                                   read_nest, read_priced)

ALL = [(nest_text, read_nest, nest_fault), (priced_text, read_priced, priced_text_fault),
       (joins_text, read_joins, joins_fault), (claim_text, read_claim, claim_fault)]
PRIMES = [2, 3, 5, 7, 11, 13, 17, 19, 23, 29, 31, 37, 41]


def plain_fraction(text):
    over, _, under = text.partition("/")
    if under == "":
        return None if "/" in text else (int(over), 1)
    pair = (int(over), int(under))
    return pair if pair[1] > 1 and math.gcd(*pair) == 1 else None


def plain_lot(text):
    lot = sorted(text.split(", "))
    return None if set(lot) & set(BARRED) or len(set(lot)) < len(lot) else lot


def plain_rows(text, pattern, kinds):
    lines = lines_of(text)
    if lines is None or not all(match(pattern, line) for line in lines):
        return None
    rows = [tuple(kind(part) for kind, part in zip([plain_lot, *kinds], match(pattern, line)))
            for line in lines]
    if any(part is None for row in rows for part in row):
        return None
    return sorted(rows) if len({tuple(row[0]) for row in rows}) == len(rows) else None


def plain_nest(text):
    return plain_rows(text, f"lot ({LOT}) at ({INTEGER})", [int])


def plain_priced(text):
    return plain_rows(text, f"lot ({LOT}) loss ({NUMBER}) border ({NUMBER})", [int, int])


def plain_joins(text):
    return plain_rows(text, f"join ({LOT}) at ({FRACTION})", [plain_fraction])


def plain_claim(text):
    first, feed, rest = text.partition("\n")
    price = match(f"price ({FRACTION})", first)
    if feed == "" or price is None or plain_fraction(price[0]) is None:
        return None
    lots = plain_rows(rest, f"lot ({LOT})", [])
    names = [name for (lot,) in lots or [] for name in lot]
    if lots is None or len(set(names)) < len(names):
        return None
    return (plain_fraction(price[0]), [lot for (lot,) in lots])


class Written(unittest.TestCase):

    def test_nests(self):
        nest = [[("c", "b", "a"), 5], (["b", "a"], -2), (["d"], 0)]
        text = "lot a, b at -2\nlot a, b, c at 5\nlot d at 0\n"
        self.assertEqual(nest_text(nest), text)
        self.assertEqual(read_nest(text), [(["a", "b"], -2), (["a", "b", "c"], 5), (["d"], 0)])
        self.assertEqual(nest_text([(["a", "b"], 1), (["b", "c"], 1)]), "lot a, b at 1\nlot b, c at 1\n")
        self.assertEqual(read_nest("lot d at 0\nlot c, b, a at 5\nlot b, a at -2\n"), read_nest(text))

    def test_priced_lots(self):
        text = ("lot a loss 0 border 2\nlot a, b loss 2 border 2\nlot a, b, c, d loss 20 border 0\n"
                "lot b loss 0 border 2\nlot c loss 0 border 3\nlot c, d loss 6 border 3\n"
                "lot d loss 0 border 3\n")
        self.assertEqual(priced_text(V), text)
        self.assertEqual(read_priced(text), sorted(V))
        self.assertEqual(read_priced("lot b, a loss 10 border 0\n"), [(["a", "b"], 10, 0)])

    def test_joins(self):
        rows = [(["d", "c"], [2, 1]), [["d", "c", "b", "a"], (12, 5)], (["a", "b"], (1, 1))]
        text = "join a, b at 1\njoin a, b, c, d at 12/5\njoin c, d at 2\n"
        self.assertEqual(joins_text(rows), text)
        told = [(["a", "b"], (1, 1)), (["a", "b", "c", "d"], (12, 5)), (["c", "d"], (2, 1))]
        self.assertEqual(read_joins(text), told)
        self.assertEqual(joins_text([(["a"], (0, 1))]), "join a at 0\n")

    def test_claims(self):
        text = "price 3/2\nlot a, b\nlot c\nlot d\n"
        self.assertEqual(claim_text([[3, 2], [["d"], ("c",), ["b", "a"]]]), text)
        self.assertEqual(read_claim(text), ((3, 2), [["a", "b"], ["c"], ["d"]]))
        self.assertEqual(read_claim("price 0\nlot d\nlot b, a\n"), ((0, 1), [["a", "b"], ["d"]]))
        self.assertEqual(claim_text(((0, 1), ())), "price 0\n")

    def test_nothing(self):
        for write, read, fault in ALL[:3]:
            self.assertEqual((write([]), read(""), fault("")), ("", [], None))
        self.assertEqual(claim_fault(""), (1, 1))

    def test_what_is_passed_stays(self):
        nest = [[["b", "a"], 5], [["a"], 1]]
        nest_text(nest)
        self.assertEqual(nest, [[["b", "a"], 5], [["a"], 1]])
        claim = [[3, 2], [["b", "a"]]]
        claim_text(claim)
        self.assertEqual(claim, [[3, 2], [["b", "a"]]])


class BadForms(unittest.TestCase):

    def check(self, write, wrong):
        for thing in wrong:
            with self.subTest(thing):
                self.assertEqual(raised(write, thing), (BadForm, thing))
                try:
                    write(thing)
                except BadForm as error:
                    self.assertIs(error.thing, thing)

    def test_lots(self):
        for write, rest in ((nest_text, [1]), (priced_text, [1, 1]), (joins_text, [(1, 1)])):
            good = (["a"], *rest)
            self.assertIsNone(raised(write, [good, (["a", "b"], *rest), [("b",), *rest]]))
            self.check(write, [[([], *rest)], [(["a", "a"], *rest)], [(["tie"], *rest)], [("ab", *rest)],
                               [good, good], [(["a", "b"], *rest), (("b", "a"), *rest)], [good, good[:-1]],
                               [(*good, 1)], [good, None], [good, "a"], [(["a", 1], *rest)], {1: good},
                               [([["a"]], *rest)], [(NONE, *rest)], [(["a", {}], *rest)], good])

    def test_numbers(self):
        self.check(nest_text, [[(["a"], thing)] for thing in [True, "1", None, (1, 1), [], NONE, a_function]])
        self.check(priced_text, [[(["a"], *pair)] for pair in [
            (-1, 0), (0, -1), (True, 0), (0, False), ("1", 0), (0, None), ([1], 0), (0, (1, 1))]])
        for price in [(2, 2), (0, 2), (1, 0), (-1, 1), (1, -1), (True, 1), (1, True), 1, (1,), (1, 1, 1),
                      None, "11", ("1", "1"), (6, 4), {1: 1}, NONE, ([1], 1)]:
            self.check(joins_text, [[(["a"], price)], [(["a"], (1, 2)), (["b"], price)]])
            self.check(claim_text, [(price, []), [price, [["a"]]]])

    def test_claims(self):
        self.check(claim_text, [((1, 2),), ((1, 2), [], []), ((1, 2), None), ((1, 2), [["a"], ["a"]]),
                                ((1, 2), [[]]), ((1, 2), ["a"]), ((1, 2), {}), ([], (1, 2)), [], {}, "ab"])

    def test_any_object(self):
        for write, read, fault in ALL:
            for thing in odd_objects():
                if raised(write, thing) is not None:
                    self.assertEqual(raised(write, thing)[0], BadForm)
                if not isinstance(thing, str):
                    self.assertEqual(fault(thing), (0, 0))
                    self.assertEqual(raised(read, thing), (BadText, 0, 0))


class Faults(unittest.TestCase):

    def check(self, read, fault, pairs):
        for text, told in pairs:
            with self.subTest(text):
                self.assertEqual(fault(text), told)
                self.assertEqual(raised(read, text), None if told is None else (BadText, *told))

    def test_nests(self):
        self.check(read_nest, nest_fault, [
            ("lot a at 1\n", None), ("lot a at 1", (1, 11)), ("lot a at 01\n", (1, 11)), ("lot a\n", (1, 6)),
            ("lot a at -0\n", (1, 11)), ("lot a at -1\nlot a at 1\n", (2, 6)), ("lot a, a at 1\n", (1, 9)),
            ("lot a, b at 1\nlot b, a at", (2, 9)), ("lot a, b at 1\nlot b, a", (2, 9)),
            ("lot a, b at 1\nlot b, a, c at 2\n", None), ("lot a at 1\nlot a", (2, 6)),
            ("lot a at 1\nlot ab at 1\nlot a, b at 1\n", None), ("lot at at 1\n", (1, 7)), ("\n", (1, 1)),
            ("lot a at 1/2\n", (1, 11)), ("lot a at 12345678901234567\n", (1, 26)), ("lot a  at 1\n", (1, 7)),
            ("lot a at 1234567890123456\n", None), ("lot a as 1\n", (1, 8)), ("lot a at\n", (1, 9))])

    def test_priced_lots(self):
        self.check(read_priced, priced_text_fault, [
            ("lot a loss 1 border 0\n", None), ("lot a loss -1 border 0\n", (1, 12)), ("lot a loss 1\n", (1, 13)),
            ("lot a loss 1 border -", (1, 21)), ("lot a at 1\n", (1, 7)), ("lot a loss 1 border", (1, 20)),
            ("lot a loss 00 border 0\n", (1, 13)), ("lot a loss 1 border 2 \n", (1, 22)),
            ("lot a loss 1 border 2\nlot a l", (2, 6)), ("lot a loss 12345678901234567", (1, 28)),
            ("lot loss loss 1 border 2\n", (1, 9)), ("lot a loss 1 border 12345678901234567\n", (1, 37))])

    def test_joins(self):
        self.check(read_joins, joins_fault, [
            ("join a at 6/4", (1, 14)), ("join a at 0/", (1, 12)), ("join a at 6/4\n", (1, 14)),
            ("join a at 6/41\n", None), ("join a at 6/1\n", (1, 14)), ("join a at 6/11\n", None),
            ("join a at 0/1\n", (1, 12)), ("join a at 0\n", None), ("join a at 00\n", (1, 12)),
            ("join a at 6/0", (1, 13)), ("join a at 6/\n", (1, 13)), ("join a at -1\n", (1, 11)),
            ("join a at 6/-5\n", (1, 13)), ("join a at 1/2\njoin a at 1\n", (2, 7)), ("lot a", (1, 1)),
            ("join a at 1/1234567890123456\n", None), ("join a at 1/12345678901234567\n", (1, 29)),
            ("join a at 1234567890123456/5\n", None), ("join a at 12345678901234567\n", (1, 27)),
            ("join a at 2/3/\n", (1, 14)), ("join a at 5/6 \n", (1, 14)), ("join join at 1\n", (1, 10))])

    def test_claims(self):
        self.check(read_claim, claim_fault, [
            ("price 1\n", None), ("", (1, 1)), ("lot a\n", (1, 1)), ("price 2/2\n", (1, 10)), ("price 1", (1, 8)),
            ("price 2/2", (1, 10)), ("price 0/", (1, 8)), ("price 1\nprice 1\n", (2, 1)), ("price -1\n", (1, 7)),
            ("price 1\nlot a\nlot a\n", (3, 6)), ("price 1\nlot a, b\nlot c, b", (3, 9)), ("\n", (1, 1)),
            ("price 1/2\nlot a, a", (2, 9)), ("price 1\nlot", (2, 4)), ("price 3/2\nlot b\nlot a\n", None)])

    def test_barred_words(self):
        for word in BARRED:
            self.assertEqual(nest_fault(f"lot {word} at 1\n"), (1, 5 + len(word)))
            self.assertEqual(priced_text_fault(f"lot a, {word} loss 1"), (1, 8 + len(word)))
            self.assertEqual(joins_fault(f"join {word}\n"), (1, 6 + len(word)))
            self.assertEqual(claim_fault(f"price 1\nlot {word}\n"), (2, 5 + len(word)))
            self.assertIsNone(nest_fault(f"lot {word}s at 1\n"))

    def test_names_that_have_run_out(self):
        seven = ["abcdefg" + sign for sign in ["", *"abcdefghijklmnopqrstuvwxyz0123456789"]]
        lot = ", ".join(seven)
        self.assertEqual(nest_fault(f"lot {lot}, abcdefg"), (1, len(lot) + 13))
        rest = ", ".join(seven[1:])
        self.assertIsNone(nest_fault(f"lot {lot} at 1\nlot {rest} at 0\n"))
        self.assertEqual(nest_fault(f"lot {lot} at 1\nlot {rest}, abcdefg at"), (2, len(lot) + 5))
        self.assertEqual(nest_fault(f"lot {lot} at 1\nlot {', '.join(seven[::-1])} "), (2, len(lot) + 5))
        self.assertEqual(claim_fault(f"price 1\nlot {lot}\nlot abcdefg"), (3, 11))

    def test_fractions_that_no_figures_help(self):
        # an over with many divisors, and unders of so many figures that few or none can follow
        over = math.prod(PRIMES)
        self.assertEqual(len(str(over)), 15)
        for many in (13, 14, 15, 16):
            for start in range(10 ** (many - 1), 10 ** (many - 1) + 300):
                line = f"join a at {over}/{start}"
                can = any(math.gcd(over, start * 10 ** more + end) == 1
                          for more in range(min(3, 17 - many)) for end in range(10 ** more))
                fault = joins_fault(line)
                if can:
                    self.assertEqual(fault, (1, len(line) + 1))
                else:
                    self.assertGreaterEqual(many, 15)
                    self.assertLessEqual(fault[1], len(line))
                self.assertEqual(joins_fault(line + "\n") is None, math.gcd(over, start) == 1)
        self.assertEqual(joins_fault("join a at 6/1000000000000002"), (1, 28))
        self.assertEqual(joins_fault("join a at 6/100000000000002"), (1, 28))
        self.assertEqual(joins_fault("join a at 2310/1111111111111110"), (1, 31))

    def check_by_plain(self, plain, read, fault, texts, templates, seed):
        can_go_on = can_go_on_by(lambda text: plain(text) is not None, lambda _: templates)
        for text in mutations(texts, "ab1024 ,,/-\n\natl", seed, 700):
            told = first_fault(can_go_on, lambda text: plain(text) is not None, text)
            self.assertEqual(fault(text), told, text)
            if told is None:
                self.assertEqual(read(text), plain(text))

    def test_nests_by_a_plain_reader(self):
        self.check_by_plain(plain_nest, read_nest, nest_fault,
                            ["lot a, b at 1\nlot a at 0\n", "lot a at -12\nlot b, a at 5\nlot ab at 3\n"],
                            ["lot qqqqqqqq, q9z at 17\n", "lot zzz at 1\n"], 6)

    def test_priced_lots_by_a_plain_reader(self):
        self.check_by_plain(plain_priced, read_priced, priced_text_fault,
                            ["lot a, b loss 1 border 2\nlot a loss 0 border 0\n", "lot lot1 loss 20 border 4\n"],
                            ["lot qqqqqqqq, q9z loss 17 border 13\n", "lot zzz loss 1 border 1\n"], 7)

    def test_joins_by_a_plain_reader(self):
        self.check_by_plain(plain_joins, read_joins, joins_fault,
                            ["join a, b at 12/25\njoin a at 0\n", "join at1 at 1/2\njoin b, at1 at 10\n"],
                            ["join qqqqqqqq, q9z at 1/1\n", "join zzz at 1/13\n", "/17\n", "/19\n"], 8)

    def test_claims_by_a_plain_reader(self):
        self.check_by_plain(plain_claim, read_claim, claim_fault,
                            ["price 12/25\nlot a, b\nlot ab\n", "price 0\nlot lot1\n", "price 2\nlot a\nlot b\n"],
                            ["price 1/1\n", "price 1/13\n", "/17\n", "/19\n", "lot qqqqqqqq, q9z\n"], 9)


if __name__ == "__main__":
    unittest.main()
