"""Point [57]: the least loss within a border."""

import unittest

import nests
from helpers import NO_INTEGERS, V, check_errors, odd_objects
from partswithin.best import coarsest, finest
from partswithin.borders import within_border
from partswithin.errors import BadNumber, BadPriced
from partswithin.priced import Priced
from test_pricesfor import weighed

NEST = Priced(V)
ONES = [["a"], ["b"], ["c"], ["d"]]


class Borders(unittest.TestCase):

    def test_the_example_and_its_edges(self):
        joined = [["a", "b"], ["c"], ["d"]]
        self.assertEqual(within_border(NEST, 8), ("least", (1, 1), joined))
        self.assertEqual(within_border(NEST, 9), ("between", (1, 1), ONES, joined))
        self.assertEqual([within_border(NEST, border) for border in (10, 11, 10 ** 9)], [("least", (0, 1), ONES)] * 3)
        self.assertEqual(within_border(NEST, 0), ("least", (12, 5), [["a", "b", "c", "d"]]))
        self.assertEqual(within_border(NEST, 1), ("between", (12, 5), [["a", "b"], ["c", "d"]], [["a", "b", "c", "d"]]))

    def test_none_where_each_parting_has_more(self):
        priced = Priced([(["a"], 0, 2), (["b"], 0, 2), (["a", "b"], 5, 3)])
        self.assertEqual([within_border(priced, border) for border in (0, 2)], [None, None])
        self.assertEqual(within_border(priced, 3), ("least", (5, 1), [["a", "b"]]))
        self.assertEqual(within_border(Priced([]), 0), ("least", (0, 1), []))
        # the coarsest best parting of price 0 has less border than places alone
        free = Priced([(["a"], 0, 2), (["b"], 0, 2), (["a", "b"], 0, 3)])
        self.assertEqual([within_border(free, border) for border in (3, 4)], [("least", (0, 1), [["a", "b"]])] * 2)
        self.assertIsNone(within_border(free, 2))

    def test_over_small_nests(self):
        seen = {"least": 0, "between": 0, None: 0}
        for priced in nests.small_nests(200, 200):
            rows = [weighed(priced, lots) for lots in nests.all_partings(priced)]
            found = nests.coarsest_by_price(priced)
            for border in range(max(less for _, less in rows) + 2):
                told = within_border(priced, border)
                losses = [loss for loss, own in rows if own <= border]
                seen[told if told is None else told[0]] += 1
                self.assertEqual(told is None, losses == [])
                if told is None:
                    continue
                first = [(price, lots) for price, lots in found if weighed(priced, lots)[1] == border
                         or price == 0 and weighed(priced, lots)[1] <= border]
                self.assertEqual(told[0] == "least", first != [])
                if told[0] == "least":
                    self.assertEqual(told[1:], (nests.pair_of(first[0][0]), first[0][1]))
                    self.assertEqual(weighed(priced, told[2])[0], min(losses))
                else:
                    _, price, finer, coarser = told
                    self.assertEqual((finer, coarser), (finest(priced, price), coarsest(priced, price)))
                    best = nests.best_ones(priced, price)
                    self.assertTrue(finer in best and coarser in best)
                    self.assertTrue(weighed(priced, coarser)[1] < border < weighed(priced, finer)[1])
                    self.assertGreaterEqual(min(losses), nests.worth_of(priced, finer, price)
                                            - border * nests.Fraction(*price))
        self.assertGreater(min(seen.values()), 100)

    def test_sixty_places_and_a_hundred_lots(self):
        for rows in (nests.chain(60), nests.halves(60)):
            priced = Priced(rows)
            for border in (10 ** 9, 180, 179, 100, 50, 10):
                told = within_border(priced, border)
                self.assertEqual(within_border(Priced(rows[::-1]), border), told)
                if told is not None and told[0] == "between":
                    self.assertEqual(told[2:], (finest(priced, told[1]), coarsest(priced, told[1])))

    def test_wrong_things(self):
        check_errors(self, ((within_border, ["priced", "border"]),), {"priced": NEST, "border": 0},
                     {"priced": (odd_objects() + [V], BadPriced), "border": (NO_INTEGERS + [-1, (1, 1)], BadNumber)})


if __name__ == "__main__":
    unittest.main()
