"""Points [50], [51] and [54]: the best partings at a price, and what shows that a parting is none."""

import inspect
import itertools
import random
import unittest

import nests
from helpers import NO_INTEGERS, V, odd_objects, raised
from partswithin.best import best_at, coarsest, count_best, finest, is_worse, worse
from partswithin.errors import BadNumber, BadParting, BadPrice, BadPriced
from partswithin.priced import Priced
from test_worths import NO_PRICES

NEST = Priced(V)
ONES = [["a"], ["b"], ["c"], ["d"]]
FUNCTIONS = ((coarsest, ["priced", "price"]), (finest, ["priced", "price"]), (count_best, ["priced", "price"]),
             (best_at, ["priced", "price", "number"]), (worse, ["priced", "parting", "price"]),
             (is_worse, ["priced", "parting", "price", "thing"]))


def meeting_price(priced, source):
    """A price at which a lot is as dear as its parts, or any one."""
    pairs = []
    for lot, loss, border in priced.rows():
        parts = priced.parts(lot)
        if parts:
            over = loss - sum(priced.loss(part) for part in parts)
            under = sum(priced.border(part) for part in parts) - border
            if under > 0:
                price = nests.Fraction(over, under)
                pairs.append((price.numerator, price.denominator))
    return source.choice(pairs + nests.PRICES)


def all_claims(priced, lots):
    """All ("join", lot) and ("part", lot, lots) of a parting by the words of [51], dear or not."""
    for lot, _, _ in priced.rows():
        inside = [one for one in lots if set(one) <= set(lot)]
        if len(inside) > 1 and sorted(sum(inside, [])) == lot:
            yield ("join", lot), inside, [lot]
    for lot in lots:
        for chosen in nests.parting_lots(priced, lot):
            yield ("part", lot, chosen), [lot], chosen


class Best(unittest.TestCase):

    def test_the_example(self):
        for price, lots in (((0, 1), ONES), ((1, 2), ONES), ((1, 1), [["a", "b"], ["c"], ["d"]]),
                            ((2, 1), [["a", "b"], ["c", "d"]]), ((12, 5), [["a", "b", "c", "d"]]),
                            ((99, 1), [["a", "b", "c", "d"]])):
            self.assertEqual(coarsest(NEST, price), lots)
        self.assertEqual(count_best(NEST, (1, 1)), 2)
        self.assertEqual([best_at(NEST, [1, 1], number) for number in range(2)], [ONES, [["a", "b"], ["c"], ["d"]]])
        self.assertEqual(finest(NEST, (1, 1)), ONES)
        self.assertEqual(finest(NEST, (12, 5)), [["a", "b"], ["c", "d"]])

    def test_nothing_and_the_price_0(self):
        none = Priced([])
        self.assertEqual((coarsest(none, (0, 1)), finest(none, (1, 3)), count_best(none, (1, 1))), ([], [], 1))
        self.assertEqual((best_at(none, (1, 1), 0), worse(none, [], (0, 1))), ([], None))
        free = Priced([(["a"], 1, 4), (["b"], 0, 0), (["c"], 0, 0), (["b", "a"], 1, 4), (["b", "c", "a"], 2, 0)])
        self.assertEqual((coarsest(free, (0, 1)), finest(free, (0, 1))), ([["a", "b"], ["c"]], [["a"], ["b"], ["c"]]))

    def test_over_small_nests(self):
        source = random.Random(160)
        several = 0
        for priced in nests.small_nests(160, 300) + nests.small_nests(161, 60, 9):
            for price in {meeting_price(priced, source) for _ in range(4)} | {(0, 1)}:
                found = nests.best_ones(priced, price)
                several += len(found) > 2
                self.assertEqual(count_best(priced, price), len(found))
                self.assertEqual([best_at(priced, price, number) for number in range(len(found))], found)
                coarse, fine = coarsest(priced, price), finest(priced, price)
                self.assertIn(coarse, found)
                self.assertIn(fine, found)
                for lots in found:
                    self.assertTrue(nests.lies_within(lots, coarse))
                    self.assertTrue(nests.lies_within(fine, lots))
        self.assertGreater(several, 10)

    def test_greatest_and_least_lots_of_two_best_ones_are_best(self):
        for priced in nests.small_nests(162, 60):
            for price in nests.PRICES[:5]:
                found = nests.best_ones(priced, price)
                for one, other in itertools.product(found, repeat=2):
                    every = [lot for lot in one + other]
                    great = [lot for lot in every if not any(set(lot) < set(two) for two in every)]
                    small = [lot for lot in every if not any(set(two) < set(lot) for two in every)]
                    for lots in (great, small):
                        self.assertIn(sorted({tuple(lot): lot for lot in lots}.values()), found)

    def test_told_lists_are_new(self):
        for function in (coarsest, finest):
            told = function(NEST, (1, 1))
            told[0].append("z")
            self.assertNotEqual(function(NEST, (1, 1)), told)
        best_at(NEST, (1, 1), 0)[0].clear()
        self.assertEqual((best_at(NEST, (1, 1), 0), NEST), (ONES, Priced(V)))

    def test_four_hundred_lots(self):
        for priced in (Priced(nests.chain(200)), Priced(nests.halves(200))):
            for price in ((0, 1), (3, 2), (40, 1), (10 ** 8, 1)):
                coarse, fine = coarsest(priced, price), finest(priced, price)
                self.assertTrue(nests.lies_within(fine, coarse))
                self.assertEqual((worse(priced, coarse, price), worse(priced, fine, price)), (None, None))
                self.assertEqual(count_best(priced, price) == 1, coarse == fine)

    def test_counts_as_long_as_they_are(self):
        places = [f"p{number}" for number in range(200)]
        rows = [([place], 0, 1) for place in places]
        rows += [(places[at:at + 2], 1, 1) for at in range(0, 200, 2)]
        self.assertEqual(count_best(Priced(rows), (1, 1)), 2 ** 100)

    def test_twelve_places(self):
        places = list("abcdefghijkl")
        rows = [([place], 0, 1) for place in places] + [(places[at:at + 2], 1, 1) for at in range(0, 12, 2)]
        priced = Priced(rows)
        found = nests.best_ones(priced, (1, 1))
        self.assertEqual((count_best(priced, (1, 1)), len(found)), (64, 64))
        self.assertEqual([best_at(priced, (1, 1), number) for number in range(64)], found)
        self.assertEqual(raised(best_at, priced, (1, 1), 64), (BadNumber, 64))


class Worse(unittest.TestCase):

    def test_examples(self):
        self.assertEqual(worse(NEST, ONES, (2, 1)), ("join", ["a", "b"]))
        self.assertIsNone(worse(NEST, ONES, (1, 1)))
        self.assertEqual(worse(NEST, [["b", "a"], ["d", "c"]], (0, 1)), ("part", ["a", "b"], [["a"], ["b"]]))
        self.assertTrue(is_worse(NEST, ONES, (3, 1), ("join", ["d", "a", "b", "c"])))
        self.assertTrue(is_worse(NEST, [list("dcba")], (1, 1), ["part", list("abdc"), (["d"], ["b", "a"], ["c"])]))
        self.assertFalse(is_worse(NEST, ONES, (1, 1), ("join", ["a", "b"])))

    def test_just_one_over_small_nests(self):
        source = random.Random(163)
        for priced in nests.small_nests(163, 70, 5) + nests.small_nests(164, 8, 7):
            for price in {meeting_price(priced, source) for _ in range(3)}:
                found = nests.best_ones(priced, price)
                for lots in nests.all_partings(priced):
                    told = worse(priced, [lot[::-1] for lot in lots[::-1]], price)
                    self.assertEqual(told is None, lots in found)
                    shown = False
                    for claim, gone, come in all_claims(priced, lots):
                        right = nests.worth_of(priced, come, price) < nests.worth_of(priced, gone, price)
                        self.assertEqual(is_worse(priced, lots, price, claim), right)
                        shown = shown or right and claim == told
                    self.assertEqual(shown, told is not None)

    def test_orders_are_alike(self):
        for priced in nests.small_nests(165, 40):
            for lots in nests.all_partings(priced)[:8]:
                told = worse(priced, lots, (5, 2))
                if told is not None:
                    self.assertEqual(worse(priced, tuple(tuple(lot) for lot in lots), [5, 2]), told)
                    turned = [told[0], told[1][::-1], *[tuple(lots[::-1]) for lots in told[2:]]]
                    self.assertTrue(is_worse(priced, lots[::-1], (5, 2), turned))

    def test_any_object(self):
        wrong = [("join", ["a"]), ("join", ["a", "c"]), ("join", []), ("join",), ("join", ["a", "b"], 1),
                 ("part", ["a", "b"], [["a"], ["b"]]), ("part", ["a"], [["a"]]), ("join", "ab"), (None, ["a", "b"]),
                 ("part", ["a"], []), ("part", ["a", "b"]), (["join"], ["a", "b"]), ("join", None), ("joins", ["a", "b"])]
        for thing in odd_objects() + wrong:
            self.assertIs(is_worse(NEST, ONES, (2, 1), thing), False, thing)
        joined = [["a", "b"], ["c", "d"]]
        wrong = [("part", ["a", "b"], [["a"], ["b"], ["a"]]), ("part", ["a", "b"], [["a"]]), ("join", ["a", "b"]),
                 ("part", ["a", "b"], [["a"], ["c"]]), ("part", ["a", "b"], [["a", "b"]]), ("part", ["a", "b"], "ab"),
                 ("part", ["a"], [["a"]]), ("part", list("abcd"), [["a", "b"], ["c", "d"]]), ("part", ["a", "b"], None),
                 ("part", ["a", "b"], [["a"], ["b"], 1]), ("part", ["a", "b"], [["a"], ["b", "b"]]), None]
        for thing in odd_objects() + wrong:
            self.assertIs(is_worse(NEST, joined, (0, 1), thing), False, thing)
        self.assertIs(is_worse(NEST, joined, (0, 1), ("part", ["b", "a"], [["b"], ["a"]])), True)


class Wrong(unittest.TestCase):

    def test_names_of_parameters(self):
        for function, names in FUNCTIONS:
            self.assertEqual(list(inspect.signature(function).parameters), names)

    def test_each_error_in_order(self):
        for function, names in FUNCTIONS:
            right = {"priced": NEST, "parting": ONES, "price": (1, 1), "number": 0, "thing": None}
            wrong = {"priced": (odd_objects() + [V], BadPriced),
                     "parting": (odd_objects() + [ONES[1:], ONES + [["a"]]], BadParting),
                     "price": (odd_objects() + NO_PRICES + NO_INTEGERS, BadPrice),
                     "number": ([*NO_INTEGERS, -1, 2, 10 ** 30], BadNumber)}
            for at, name in enumerate(names):
                things, kind = wrong.get(name, ([], None))
                for thing in things:
                    later = [None if other in wrong else right[other] for other in names[at + 1:]]
                    try:
                        function(*[right[other] for other in names[:at]], thing, *later)
                        self.fail((function.__name__, thing))
                    except kind as error:
                        self.assertIs(error.thing, thing)


if __name__ == "__main__":
    unittest.main()
