"""Point [53]: the prices at which a parting is best, and the lots that clash."""

import itertools
import unittest

import nests
from helpers import V, check_errors, odd_objects
from partswithin.errors import BadParting, BadPriced
from partswithin.pricesfor import clash, is_clash, prices_for
from partswithin.priced import Priced

NEST = Priced(V)
ONES = [["a"], ["b"], ["c"], ["d"]]
CLASHING = [["a"], ["b"], ["d", "c"]]
FUNCTIONS = ((prices_for, ["priced", "parting"]), (clash, ["priced", "parting"]),
             (is_clash, ["priced", "parting", "thing"]))


def weighed(priced, lots):
    return (sum(priced.loss(lot) for lot in lots), sum(priced.border(lot) for lot in lots))


def plain_prices(priced, lots):
    """(low, high) of the prices at which no other parting is less dear, all being listed."""
    loss, border = weighed(priced, lots)
    low, high = nests.Fraction(0), None
    for other in nests.all_partings(priced):
        more, less = weighed(priced, other)
        if more < loss and less <= border:
            return None
        if less > border and more < loss:
            low = max(low, nests.Fraction(loss - more, less - border))
        if less < border:
            if more < loss:
                return None
            meets = nests.Fraction(more - loss, border - less)
            high = meets if high is None else min(high, meets)
    return None if high is not None and low > high else (nests.pair_of(low), nests.pair_of(high))


def plain_clashes(priced, lots):
    """All clashes of a parting by the words of [53]."""
    nevers, lows, highs = [], [], []
    for lot in lots:
        for chosen in nests.parting_lots(priced, lot):
            loss, border = weighed(priced, chosen)
            less, more = priced.loss(lot) - loss, border - priced.border(lot)
            if less > 0 and more <= 0:
                nevers.append(("never", lot, chosen))
            if less > 0 and more > 0:
                lows.append((nests.Fraction(less, more), lot, chosen))
    for other, loss, border in priced.rows():
        inside = [lot for lot in lots if set(lot) <= set(other)]
        if len(inside) > 1 and sorted(sum(inside, [])) == other and border < weighed(priced, inside)[1]:
            less = weighed(priced, inside)
            highs.append((nests.Fraction(loss - less[0], less[1] - border), other))
    return nevers + [("two", lot, chosen, other) for low, lot, chosen in lows for high, other in highs if high < low]


class PricesFor(unittest.TestCase):

    def test_the_example(self):
        self.assertEqual(prices_for(NEST, [["b", "a"], ["d"], ("c",)]), ((1, 1), (2, 1)))
        self.assertEqual((prices_for(NEST, ONES), prices_for(NEST, [list("dbca")])), (((0, 1), (1, 1)), ((12, 5), None)))
        self.assertIsNone(clash(NEST, ONES))
        self.assertIsNone(prices_for(NEST, CLASHING))
        self.assertEqual(clash(NEST, CLASHING), ("two", ["c", "d"], [["c"], ["d"]], ["a", "b"]))
        self.assertIs(is_clash(NEST, CLASHING, ["two", ["d", "c"], (["d"], ["c"]), ["b", "a"]]), True)
        self.assertIs(is_clash(NEST, CLASHING, ("two", ["c", "d"], [["c"], ["d"]], list("abcd"))), False)

    def test_nothing_never_and_for_ever(self):
        none = Priced([])
        self.assertEqual((prices_for(none, []), clash(none, ())), (((0, 1), None), None))
        priced = Priced([(["a"], 0, 1), (["b"], 0, 1), (["a", "b"], 1, 2)])
        self.assertEqual((prices_for(priced, [["a"], ["b"]]), prices_for(priced, [["b", "a"]])), (((0, 1), None), None))
        self.assertEqual(clash(priced, [["b", "a"]]), ("never", ["a", "b"], [["a"], ["b"]]))
        never = (["a", "b"], [["b"], ["a"]])
        for word, right in (("never", True), ("two", False), (["never"], False), (None, False), ("clash", False)):
            self.assertIs(is_clash(priced, [["b", "a"]], (word, *never)), right)
        alike = Priced([(["a"], 1, 1), (["b"], 0, 1), (["a", "b"], 1, 2)])
        self.assertEqual([prices_for(alike, lots) for lots in ([["a"], ["b"]], [["a", "b"]])], [((0, 1), None)] * 2)
        free = Priced([(["a"], 1, 1), (["b"], 0, 1), (["a", "b"], 1, 1)])
        self.assertEqual(prices_for(free, [["a"], ["b"]]), ((0, 1), (0, 1)))

    def test_just_one_over_small_nests(self):
        seen = {"two": 0, "never": 0, None: 0}
        for priced in nests.small_nests(180, 220) + nests.small_nests(181, 12, 8):
            for lots in nests.all_partings(priced):
                right = plain_prices(priced, lots)
                told = clash(priced, [lot[::-1] for lot in lots[::-1]])
                self.assertEqual(prices_for(priced, lots[::-1]), right)
                self.assertNotEqual(told is None, right is None)
                seen[None if told is None else told[0]] += 1
                if told is not None:
                    self.assertIn(told, plain_clashes(priced, lots))
        self.assertGreater(min(seen.values()), 30)

    def test_it_is_best_just_there(self):
        for priced in nests.small_nests(182, 50, 5):
            prices = [nests.pair_of(price) for price in nests.turning_prices(priced)]
            for lots in nests.all_partings(priced):
                right = [price for price in prices if lots in nests.best_ones(priced, price)]
                told = prices_for(priced, lots)
                self.assertEqual(told is None, right == [])
                if told is not None:
                    self.assertEqual(told[0], right[0])
                    # behind the last turning price all goes on for ever
                    self.assertEqual(told[1], None if right[-1] == prices[-1] else right[-1])

    def test_each_clash_is_right_and_no_other(self):
        for priced in nests.small_nests(183, 60, 5):
            for lots in nests.all_partings(priced):
                right = plain_clashes(priced, lots)
                for clashing in right:
                    turned = [clashing[0], clashing[1][::-1], [part[::-1] for part in clashing[2]][::-1], *clashing[3:]]
                    self.assertIs(is_clash(priced, lots[::-1], turned), True)
                known = [lot for lot, _, _ in priced.rows()]
                for lot, other in itertools.product(known, repeat=2):
                    for chosen in nests.parting_lots(priced, lot) + [[lot]]:
                        for thing in (("never", lot, chosen), ("two", lot, chosen, other)):
                            self.assertIs(is_clash(priced, lots, thing), thing in right)

    def test_any_object(self):
        right = ["c", "d"], [["c"], ["d"]], ["a", "b"]
        wrong = [("two", *right[:2]), ("never", *right), ("never", *right[:2]), ("two", right[0], right[1], None), None,
                 (["two"], *right), ("two", None, right[1], right[2]), ("two", right[0], "cd", right[2]), [*right],
                 ("two", right[0], [["c"], ["d"], 1], right[2]), ("two", right[0], [["c"], ["c"]], right[2]),
                 ("two", ["a", "b"], [["a"], ["b"]], right[2]), ("two", right[0], [["c"]], right[2]),
                 ("two", *right, 1), ("two", right[0], [["c", "d"]], right[2]), ("two", right[0], [], right[2])]
        for thing in odd_objects() + wrong:
            self.assertIs(is_clash(NEST, CLASHING, thing), False, thing)
            for word in ("two", "never"):
                for at in range(1, 4):
                    odd = [word, *right]
                    odd[at] = thing
                    if odd != ["two", *right] and thing != ["a", "b"]:
                        self.assertIs(is_clash(NEST, CLASHING, odd), False, odd)

    def test_four_hundred_lots(self):
        for rows in (nests.chain(200), nests.halves(200)):
            priced = Priced(rows)
            for lots in ([[place] for place in priced.places()], [priced.places()]):
                told = clash(priced, lots)
                self.assertNotEqual(told is None, prices_for(priced, lots) is None)
                self.assertIs(is_clash(priced, lots, told), told is not None)
                self.assertEqual(clash(Priced(rows[::-1]), [tuple(lot) for lot in lots]), told)

    def test_wrong_things(self):
        right = {"priced": NEST, "parting": ONES, "thing": None}
        wrong = {"priced": (odd_objects() + [V], BadPriced),
                 "parting": (odd_objects() + [ONES[1:], ONES + [["a"]], [["a", "c"], ["b", "d"]]], BadParting)}
        check_errors(self, FUNCTIONS, right, wrong)


if __name__ == "__main__":
    unittest.main()
