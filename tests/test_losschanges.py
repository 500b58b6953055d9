"""Point [58]: how far a loss must change until its lot comes, or goes."""

import unittest
from fractions import Fraction

import nests
from helpers import NO_INTEGERS, V, check_errors, odd_objects, raised
from partswithin.errors import BadPrice, BadPriced, IsThere, NoLot, NotThere
from partswithin.losschanges import may_rise, must_fall
from partswithin.priced import Priced
from test_stretches import NO_LOTS
from test_worths import NO_PRICES

NEST = Priced(V)
FUNCTIONS = ((may_rise, ["priced", "price", "lot"]), (must_fall, ["priced", "price", "lot"]))


def coarsest_with(priced, price, changed, by):
    """The coarsest best parting where one lot's loss is more by so much, all partings being listed."""
    rows = [(nests.worth_of(priced, lots, price) + by * (changed in lots), lots) for lots in nests.all_partings(priced)]
    best = [lots for total, lots in rows if total == min(rows)[0]]
    return [lots for lots in best if all(nests.lies_within(other, lots) for other in best)][0]


class LossChanges(unittest.TestCase):

    def test_the_example(self):
        self.assertEqual(may_rise(NEST, (3, 2), ["b", "a"]), ((1, 1), False))
        self.assertEqual(must_fall(NEST, [3, 2], ("c", "d")), ((3, 2), False))
        self.assertEqual(must_fall(NEST, (3, 2), ["a"]), ((1, 1), True))

    def test_edges(self):
        one = Priced([(["a"], 3, 1)])
        self.assertIsNone(may_rise(one, (1, 1), ["a"]))
        # as dear as its parts: it may rise by 0, a part comes by any fall
        self.assertEqual(may_rise(NEST, (1, 1), ["a", "b"]), ((0, 1), False))
        self.assertEqual(must_fall(NEST, (1, 1), ["b"]), ((0, 1), True))
        # places alone may rise by less than each lot around them is too dear
        self.assertEqual(may_rise(NEST, (0, 1), ["a"]), ((2, 1), True))
        self.assertEqual(may_rise(NEST, (0, 1), ["d"]), ((6, 1), True))
        # all four are less dear by 33 - 20, a and b by 20 - 12
        self.assertEqual(must_fall(NEST, (5, 1), ["a"]), ((21, 1), True))

    def test_a_lot_falls_below_0(self):
        priced = Priced([(["a"], 0, 5), (["b"], 0, 5), (["a", "b"], 0, 0)])
        self.assertEqual(must_fall(priced, (3, 1), ["a"]), ((30, 1), True))

    def test_over_small_nests(self):
        seen = {None: 0, True: 0, False: 0}
        below = 0
        for priced in nests.small_nests(210, 70) + nests.small_nests(211, 2, 8):
            for price in [nests.pair_of(price) for price in nests.turning_prices(priced)[:7]] + [(7, 3)]:
                there = coarsest_with(priced, price, None, 0)
                little = Fraction(1, 1000 * price[1])
                for lot, loss, _ in priced.rows():
                    if lot not in there:
                        self.assertEqual(raised(may_rise, priced, price, lot), (NotThere, lot))
                        (over, under), is_open = must_fall(priced, price, lot[::-1])
                        number = Fraction(over, under)
                        below += number > loss
                        self.assertEqual((number.numerator, number.denominator), (over, under))
                        for by, comes in ((number, not is_open), (number + little, True), (number * 2 + 1, True),
                                          (number - little, False)):
                            self.assertEqual(lot in coarsest_with(priced, price, lot, -by), comes)
                        continue
                    self.assertEqual(raised(must_fall, priced, price, lot), (IsThere, lot))
                    told = may_rise(priced, price, lot)
                    seen[told if told is None else told[1]] += 1
                    if told is None:
                        self.assertIn(lot, coarsest_with(priced, price, lot, 10 ** 9))
                        continue
                    number = Fraction(*told[0])
                    self.assertEqual((number.numerator, number.denominator), told[0])
                    for by, stays in ((number, not told[1]), (number - little, True), (number + little, False),
                                      (number * 2 + 1, False)):
                        self.assertEqual(lot in coarsest_with(priced, price, lot, by), stays)
        self.assertGreater(min(*seen.values(), below), 30)

    def test_sixty_places_and_a_hundred_lots(self):
        for rows in (nests.chain(60), nests.halves(60)):
            for price in ((0, 1), (17, 3), (10 ** 6, 1)):
                for lot, _, _ in rows:
                    told = [raised(function, Priced(rows), price, lot) for function in (may_rise, must_fall)]
                    self.assertEqual(len([error for error in told if error is not None]), 1)

    def test_wrong_things(self):
        lots = [thing for thing in odd_objects() if thing not in (["a"], ("a",), ["a", "b"])]
        wrong = {"priced": (odd_objects() + [V], BadPriced), "price": (odd_objects() + NO_PRICES + NO_INTEGERS, BadPrice),
                 "lot": (lots + NO_LOTS, NoLot)}
        check_errors(self, FUNCTIONS, {"priced": NEST, "price": (1, 1)}, wrong)
        there, gone = ("b", "a"), ["d", "c"]
        check_errors(self, FUNCTIONS[:1], {"priced": NEST, "price": (3, 2)}, {"lot": ([gone, ["a"], list("dabc")], NotThere)})
        check_errors(self, FUNCTIONS[1:], {"priced": NEST, "price": (3, 2)}, {"lot": ([there, ["c"], ("d",)], IsThere)})


if __name__ == "__main__":
    unittest.main()
