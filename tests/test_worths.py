"""Point [49]: partings of priced nests, and what they are worth."""

import inspect
import random
import unittest
from fractions import Fraction

import nests
from helpers import NO_INTEGERS, V, odd_objects, raised
from partswithin.errors import BadParting, BadPrice, BadPriced
from partswithin.priced import Priced
from partswithin.worths import parting_fault, weights, worth

NEST = Priced(V)
ONES = [["a"], ["b"], ["c"], ["d"]]
# what is no fraction from 0 on in lowest terms
NO_PRICES = [(0, 2), (2, 4), (6, 3), (1, 0), (0, 0), (-1, 2), (1, -2), (-1, -2), (1,), (1, 2, 3), [3, 3], (True, 1),
             (1, True), ("1", 2), (1, None), ((1, 2), 1), 1, "12", {1: 2, 3: 4}]


def plain_fault(priced, lots):
    """The fault of a list of lists of names, by the words."""
    known = [lot for lot, _, _ in priced.rows()]
    for index, lot in enumerate(lots):
        if sorted(lot) not in known:
            return ("lot", index)
    for index, lot in enumerate(lots):
        if any(set(lot) & set(ahead) for ahead in lots[:index]):
            return ("again", index)
    stood = [place for lot in lots for place in lot]
    return next((("lacks", place) for place in priced.places() if place not in stood), None)


class Partings(unittest.TestCase):

    def test_each_fault_in_its_order(self):
        self.assertIsNone(parting_fault(NEST, ONES))
        self.assertIsNone(parting_fault(NEST, (("d",), ("c",), ["b", "a"])))
        self.assertEqual(parting_fault(NEST, [["a"], ["a"], ["c", "a"]]), ("lot", 2))
        self.assertEqual(parting_fault(NEST, [["a"], ["b"], ["b", "a"]]), ("again", 2))
        self.assertEqual(parting_fault(NEST, [["a"], ["a"]]), ("again", 1))
        self.assertEqual(parting_fault(NEST, [["d"], ["b", "a"]]), ("lacks", "c"))
        self.assertEqual(parting_fault(NEST, []), ("lacks", "a"))
        self.assertEqual((parting_fault(Priced([]), []), parting_fault(Priced([]), ())), (None, None))
        self.assertEqual(parting_fault(Priced([]), [[]]), ("lot", 0))

    def test_any_object(self):
        for thing in odd_objects():
            told = parting_fault(NEST, thing)
            if not isinstance(thing, (list, tuple)):
                self.assertEqual(told, ("form",))
            else:
                self.assertIn(told[0], ("lot", "lacks"))
            if thing not in (["a"], ("a",), ["a", "b"]):
                self.assertEqual(parting_fault(NEST, [["d"], thing, 5]), ("lot", 1))

    def test_over_small_nests(self):
        source = random.Random(150)
        for priced in nests.small_nests(150, 60, 5):
            right = nests.all_partings(priced)
            known = [lot for lot, _, _ in priced.rows()]
            for lots in right:
                self.assertIsNone(parting_fault(priced, [lot[::-1] for lot in lots[::-1]]))
            for _ in range(20):
                lots = [source.choice(known) for _ in range(source.randint(0, 4))] if known else []
                lots += [source.sample("abcdef", source.randint(0, 3))] * (source.random() < 0.3)
                told = parting_fault(priced, lots)
                self.assertEqual(told, plain_fault(priced, lots))
                self.assertEqual(told is None, sorted(lots) in right)


class Worths(unittest.TestCase):

    def test_the_example(self):
        self.assertEqual(weights(NEST, ONES), (0, 10))
        self.assertEqual(weights(NEST, [["d"], ["c"], ["b", "a"]]), (2, 8))
        self.assertEqual(worth(NEST, ONES, (0, 1)), (0, 1))
        self.assertEqual(worth(NEST, ONES, (1, 1)), (10, 1))
        self.assertEqual(worth(NEST, [["a", "b"], ["c", "d"]], [12, 5]), (20, 1))
        self.assertEqual(worth(NEST, [["a", "b"], ["c", "d"]], (1, 3)), (29, 3))
        self.assertEqual((weights(Priced([]), []), worth(Priced([]), [], (7, 3))), ((0, 0), (0, 1)))

    def test_in_lowest_terms_over_small_nests(self):
        for priced in nests.small_nests(151, 40):
            for lots in nests.all_partings(priced)[:12]:
                self.assertEqual(weights(priced, lots), (sum(priced.loss(lot) for lot in lots),
                                                         sum(priced.border(lot) for lot in lots)))
                for price in nests.PRICES:
                    total = nests.worth_of(priced, lots, price)
                    self.assertEqual(worth(priced, lots, price), (total.numerator, total.denominator))
                    self.assertEqual(Fraction(*worth(priced, lots, price)), total)

    def test_wrong_things_in_order(self):
        for function in (parting_fault, weights, worth):
            more = [None] * (function.__code__.co_argcount - 2)
            for thing in odd_objects() + [V]:
                try:
                    function(thing, None, *more)
                    self.fail(thing)
                except BadPriced as error:
                    self.assertIs(error.thing, thing)
        for function in (weights, worth):
            more = [None] * (function.__code__.co_argcount - 2)
            for thing in odd_objects() + [ONES + [["a"]], [["a", "c"], ["b", "d"]]]:
                try:
                    function(NEST, thing, *more)
                    self.fail(thing)
                except BadParting as error:
                    self.assertIs(error.thing, thing)
        for thing in odd_objects() + NO_PRICES + NO_INTEGERS:
            try:
                worth(NEST, ONES, thing)
                self.fail(thing)
            except BadPrice as error:
                self.assertIs(error.thing, thing)

    def test_names_of_parameters(self):
        for function, names in ((parting_fault, ["priced", "thing"]), (weights, ["priced", "parting"]),
                                (worth, ["priced", "parting", "price"])):
            self.assertEqual(list(inspect.signature(function).parameters), names)
            self.assertEqual(raised(function, None, *names[1:]), (BadPriced, None))

    def test_nothing_is_changed(self):
        lots = [["d", "c"], ["b", "a"]]
        worth(NEST, lots, (1, 1))
        self.assertEqual((lots, NEST), ([["d", "c"], ["b", "a"]], Priced(V)))

    def test_four_hundred_lots(self):
        priced = Priced(nests.chain(200))
        self.assertIsNone(parting_fault(priced, [priced.places()]))
        self.assertEqual(weights(priced, [[place] for place in priced.places()]), (0, 600))
        total = 40000 + 500 * Fraction(10 ** 8 - 1, 10 ** 8)
        self.assertEqual(worth(priced, [priced.places()], (10 ** 8 - 1, 10 ** 8)), (total.numerator, total.denominator))


if __name__ == "__main__":
    unittest.main()
