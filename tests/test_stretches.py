"""Point [52]: the prices at which lots join, and the coarsest best partings as prices rise."""

import random
import unittest

import nests
from helpers import V, check_errors, odd_objects
from partswithin.best import coarsest
from partswithin.errors import BadPriced, NoLot
from partswithin.priced import Priced
from partswithin.stretches import joins_at, price_row, stretch

NEST = Priced(V)
ALL = ["a", "b", "c", "d"]
NO_LOTS = [["a", "c"], ["a", "a"], ["b", "c", "d"], "a", [["a"]], ["a", "b", "a"]]
FUNCTIONS = ((joins_at, ["priced", "lot"]), (stretch, ["priced", "lot"]), (price_row, ["priced"]))


def plain_join(priced, lot):
    """The least price at which a lot is not dearer than any that part it, all these being listed."""
    prices = [nests.Fraction(0)]
    for lots in nests.parting_lots(priced, lot):
        prices.append(nests.at_least(priced.loss(lot) - sum(priced.loss(part) for part in lots),
                                     sum(priced.border(part) for part in lots) - priced.border(lot)))
    return None if None in prices else nests.pair_of(max(prices))


class Stretches(unittest.TestCase):

    def test_the_example(self):
        self.assertEqual(price_row(NEST), [((0, 1), [["a"], ["b"], ["c"], ["d"]]), ((1, 1), [["a", "b"], ["c"], ["d"]]),
                                           ((2, 1), [["a", "b"], ["c", "d"]]), ((12, 5), [ALL])])
        self.assertEqual([joins_at(NEST, lot) for lot in (["b", "a"], ("c", "d"), ALL[::-1])], [(1, 1), (2, 1), (12, 5)])
        self.assertEqual([joins_at(NEST, [place]) for place in ALL], [(0, 1)] * 4)
        self.assertEqual([stretch(NEST, lot) for lot in (["a"], ["d"], ["a", "b"], ["d", "c"], ALL)],
                         [((0, 1), (1, 1)), ((0, 1), (2, 1)), ((1, 1), (12, 5)), ((2, 1), (12, 5)), ((12, 5), None)])

    def test_nothing_and_one_place(self):
        self.assertEqual(price_row(Priced([])), [((0, 1), [])])
        one = Priced([(["a"], 3, 0)])
        self.assertEqual((price_row(one), joins_at(one, ["a"]), stretch(one, ["a"])),
                         ([((0, 1), [["a"]])], (0, 1), ((0, 1), None)))

    def test_lots_that_join_at_0_or_never_or_that_others_overtake(self):
        rows = [(["a"], 1, 1), (["b"], 1, 1), (["c"], 0, 1), (["a", "b"], 2, 2), (["a", "b", "c"], 5, 3)]
        priced = Priced(rows)
        # a, b saves nothing and loses nothing: it joins at 0; all three never do
        self.assertEqual((joins_at(priced, ["a", "b"]), stretch(priced, ["a", "b"])), ((0, 1), ((0, 1), None)))
        self.assertEqual((joins_at(priced, ["a", "b", "c"]), stretch(priced, ["a", "b", "c"])), (None, None))
        self.assertEqual(stretch(priced, ["a"]), None)
        self.assertEqual(price_row(priced), [((0, 1), [["a", "b"], ["c"]])])
        priced = Priced([(["a"], 0, 4), (["b"], 0, 4), (["c"], 0, 4), (["a", "b"], 10, 6), (["a", "b", "c"], 12, 0)])
        # a, b joins at 5, all three at 1 already
        self.assertEqual((joins_at(priced, ["a", "b"]), stretch(priced, ["a", "b"])), ((5, 1), None))
        self.assertEqual(price_row(priced), [((0, 1), [["a"], ["b"], ["c"]]), ((1, 1), [["a", "b", "c"]])])
        # it never joins where it saves nothing behind the price at which its parts do
        rows = [(["a"], 0, 2), (["b"], 0, 2), (["c"], 0, 1), (["a", "b"], 3, 1), (["a", "b", "c"], 4, 2)]
        self.assertEqual(joins_at(Priced(rows), ["a", "b", "c"]), None)
        rows[-1] = (["a", "b", "c"], 3, 2)
        self.assertEqual(joins_at(Priced(rows), ["a", "b", "c"]), (1, 1))
        self.assertEqual(price_row(Priced(rows))[1:], [((1, 1), [["a", "b", "c"]])])

    def test_over_small_nests(self):
        never = 0
        for priced in nests.small_nests(170, 250) + nests.small_nests(171, 20, 8):
            for lot, _, _ in priced.rows():
                told = joins_at(priced, lot)
                never += told is None
                self.assertEqual(told, plain_join(priced, lot))
                for price in nests.PRICES:
                    if nests.worth_of(priced, [lot], price) <= min([nests.worth_of(priced, lots, price) for lots in
                                                                   nests.parting_lots(priced, lot)] or [10 ** 99]):
                        self.assertLessEqual(nests.Fraction(*told), nests.Fraction(*price))
        self.assertGreater(never, 20)

    def test_rows_and_stretches_over_small_nests(self):
        for priced in nests.small_nests(172, 120):
            found = nests.coarsest_by_price(priced)
            row = []
            for price, lots in found:
                if not row or row[-1][1] != lots:
                    row.append((nests.pair_of(price), lots))
            self.assertEqual(price_row(priced), row)
            for (_, finer), (_, coarser) in zip(row, row[1:]):
                self.assertTrue(nests.lies_within(finer, coarser))
            for lot, _, _ in priced.rows():
                indexes = [at for at, (_, lots) in enumerate(row) if lot in lots]
                right = None
                if indexes:
                    self.assertEqual(indexes, list(range(indexes[0], indexes[-1] + 1)))
                    right = (row[indexes[0]][0], row[indexes[-1] + 1][0] if indexes[-1] + 1 < len(row) else None)
                self.assertEqual(stretch(priced, lot), right)

    def test_four_hundred_lots(self):
        for rows in (nests.chain(200), nests.halves(200)):
            priced = Priced(rows)
            told = price_row(priced)
            self.assertEqual(price_row(Priced(rows[::-1])), told)
            prices = [nests.Fraction(*price) for price, _ in told]
            self.assertEqual(prices, sorted(set(prices)))
            self.assertGreater(len(told), 2)
            for price, lots in random.Random(170).sample(told, min(len(told), 6)):
                self.assertEqual(coarsest(priced, price), lots)
                for lot in lots[:3]:
                    low, high = stretch(priced, lot)
                    self.assertLessEqual(nests.Fraction(*low), nests.Fraction(*price))
                    self.assertTrue(high is None or nests.Fraction(*price) < nests.Fraction(*high))

    def test_large_numbers(self):
        most = 10 ** 9 - 1
        priced = Priced([(["a"], 0, most), (["b"], 0, 0), (["a", "b"], most, 1)])
        self.assertEqual(price_row(priced)[1], ((most, most - 1), [["a", "b"]]))

    def test_wrong_things(self):
        right = {"priced": NEST, "lot": ["a"]}
        lots = [thing for thing in odd_objects() if thing not in (["a"], ("a",), ["a", "b"])]
        check_errors(self, FUNCTIONS, right, {"priced": (odd_objects() + [V], BadPriced), "lot": (lots + NO_LOTS, NoLot)})


if __name__ == "__main__":
    unittest.main()
