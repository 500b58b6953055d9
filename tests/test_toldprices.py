"""Point [60]: losses told back from best partings, and told partings that clash."""

import random
import unittest
from fractions import Fraction

import nests
from helpers import V, check_errors, odd_objects, raised
from partswithin.best import coarsest
from partswithin.errors import BadPriced, BadTold, NoLot, NoParts, SavesNothing
from partswithin.priced import Priced
from partswithin.toldprices import are_losses_for, joins_between, losses_for, prices_clash
from test_stretches import NO_LOTS
from test_worths import NO_PRICES

NEST = Priced(V)
ONES = [["a"], ["b"], ["c"], ["d"]]
AB = [["a", "b"], ["c"], ["d"]]
TWO = [["a", "b"], ["c", "d"]]
ALL = [["a", "b", "c", "d"]]
FUNCTIONS = ((losses_for, ["priced", "told"]), (are_losses_for, ["priced", "told", "thing"]),
             (prices_clash, ["priced", "told"]), (joins_between, ["priced", "told", "lot"]))


def saving_nests(seed, many, most_places=6):
    """Small nests in which each lot with parts has less border than they together."""
    rows = []
    for priced in nests.small_nests(seed, many, most_places):
        borders = {}
        for lot, loss, border in sorted(priced.rows(), key=lambda row: len(row[0])):
            together = sum(borders[tuple(part)] for part in priced.parts(lot))
            borders[tuple(lot)] = border + 2 * len(lot) if len(lot) == 1 else max(0, together - 1 - border // 2)
        if all(sum(borders[tuple(part)] for part in priced.parts(lot)) > borders[tuple(lot)]
               for lot, _, _ in priced.rows() if len(lot) > 1):
            rows.append([(lot, loss, borders[tuple(lot)]) for lot, loss, _ in priced.rows()])
    return [Priced(row) for row in rows]


def plain_coarsest(priced, losses, price):
    """The coarsest best parting by these losses, all partings being listed."""
    rows = [(sum(losses[tuple(lot)] + Fraction(*price) * priced.border(lot) for lot in lots), lots)
            for lots in nests.all_partings(priced)]
    best = [lots for total, lots in rows if total == min(rows)[0]]
    return [lots for lots in best if all(nests.lies_within(other, lots) for other in best)][0]


def are_right(priced, told, rows):
    """Whether a list of (lot, loss) of all lots is right, by the words of [60]."""
    losses = {tuple(sorted(lot)): Fraction(*loss) for lot, loss in rows}
    for lot, _, _ in priced.rows():
        if priced.parts(lot) and losses[tuple(lot)] < sum(losses[tuple(part)] for part in priced.parts(lot)):
            return False
    return all(plain_coarsest(priced, losses, price) == sorted(sorted(lot) for lot in lots) for price, lots in told)


def plain_clash(told):
    for one in range(len(told)):
        for other in range(one + 1, len(told)):
            low, high = sorted((told[one], told[other]), key=lambda row: Fraction(*row[0]))
            if not nests.lies_within(low[1], high[1]):
                return (one, other)
    return None


def told_lists(source, priced):
    """Some told lists over a nest: of any partings, of rising ones, and of what is best with other losses."""
    known = nests.all_partings(priced)
    prices = source.sample([(0, 1), (1, 2), (2, 3), (1, 1), (7, 3), (3, 1), (10 ** 8, 7)], source.randint(0, 5))
    yield [(price, source.choice(known)) for price in prices[:3]]
    rising = sorted((source.choice(known) for _ in prices), key=len, reverse=True)
    yield list(zip(sorted(prices, key=lambda price: Fraction(*price)), rising))
    told = [(price, coarsest(priced, price)) for price in prices]
    yield told
    yield [(price, [lot[::-1] for lot in lots[::-1]]) for price, lots in told[::-1]]


class ToldPrices(unittest.TestCase):

    def test_the_example(self):
        self.assertEqual(prices_clash(NEST, [((1, 1), TWO), ((2, 1), ONES)]), (0, 1))
        self.assertEqual(prices_clash(NEST, [((2, 1), ONES), ([1, 1], [("d", "c"), ["b", "a"]])]), (0, 1))
        self.assertIsNone(losses_for(NEST, [((1, 1), TWO), ((2, 1), ONES)]))
        self.assertIsNone(joins_between(NEST, [((1, 1), TWO), ((2, 1), ONES)], ["a", "b"]))
        told = [((1, 1), AB), ((5, 2), ALL)]
        self.assertEqual((prices_clash(NEST, told), prices_clash(NEST, told[::-1])), (None, None))
        self.assertTrue(are_right(NEST, told, losses_for(NEST, told)))
        self.assertEqual([joins_between(NEST, told, lot) for lot in (["b", "a"], ["c", "d"], list("dcba"))],
                         [(None, (1, 1)), ((1, 1), (5, 2)), ((1, 1), (5, 2))])

    def test_which_clash_is_first(self):
        told = [((5, 1), TWO), ((3, 1), TWO), ((4, 1), ONES), ((6, 1), AB), ((2, 1), ALL)]
        self.assertEqual(prices_clash(NEST, told), (0, 3))
        self.assertEqual(prices_clash(NEST, told[1:]), (0, 1))
        self.assertEqual(prices_clash(NEST, told[2:]), (0, 2))

    def test_told_nothing_and_told_at_0(self):
        self.assertEqual(prices_clash(NEST, []), None)
        self.assertIs(are_losses_for(NEST, [], losses_for(NEST, [])), True)
        self.assertEqual(joins_between(NEST, (), ["a", "b"]), (None, None))
        self.assertEqual((losses_for(Priced([]), [((0, 1), [])]), are_losses_for(Priced([]), [], [])), ([], True))
        told = [((0, 1), AB)]
        losses = losses_for(NEST, told)
        self.assertTrue(are_right(NEST, told, losses))
        self.assertEqual(joins_between(NEST, told, ["a", "b"]), (None, (0, 1)))
        self.assertEqual(joins_between(NEST, told, ["c", "d"]), ((0, 1), None))
        self.assertEqual([lot for lot, _ in losses], [lot for lot, _, _ in NEST.rows()])

    def test_own_losses_count_for_nothing(self):
        other = Priced([(lot, loss * 3 + 40 * len(lot) ** 2, border) for lot, loss, border in V])
        told = [((1, 3), AB), ((5, 2), ALL)]
        self.assertEqual(losses_for(other, told), losses_for(NEST, told))
        self.assertIs(are_losses_for(other, told, losses_for(NEST, told)), True)

    def test_just_one_over_small_nests(self):
        source = random.Random(230)
        seen = {True: 0, False: 0}
        for priced in saving_nests(230, 250) + saving_nests(231, 20, 8):
            for told in told_lists(source, priced):
                clashing = prices_clash(priced, told)
                self.assertEqual(clashing, plain_clash(told))
                losses = losses_for(priced, told)
                self.assertEqual(losses is None, clashing is not None)
                seen[losses is None] += 1
                for lot, _, _ in priced.rows():
                    if len(lot) > 1:
                        self.check_between(priced, told, lot, clashing)
                if losses is not None:
                    self.assertEqual([lot for lot, _ in losses], [lot for lot, _, _ in priced.rows()])
                    self.assertTrue(all(over >= 0 and Fraction(over, under).denominator == under
                                        for _, (over, under) in losses))
                    self.assertTrue(are_right(priced, told, losses))
                    self.assertIs(are_losses_for(priced, told, losses), True)
        self.assertGreater(min(seen.values()), 50)

    def check_between(self, priced, told, lot, clashing):
        between = joins_between(priced, told, lot[::-1])
        if clashing is not None:
            self.assertIsNone(between)
            return
        inside = [Fraction(*price) for price, lots in told if any(set(lot) <= set(great) for great in lots)]
        outside = [Fraction(*price) for price, _ in told if Fraction(*price) not in inside]
        self.assertEqual(between, (nests.pair_of(max(outside, default=None)), nests.pair_of(min(inside, default=None))))

    def test_other_losses_are_right_just_if_they_are(self):
        source = random.Random(232)
        seen = {True: 0, False: 0}
        for priced in saving_nests(232, 80, 5):
            for told in told_lists(source, priced):
                rows = [(lot, (loss, 1)) for lot, loss, _ in priced.rows()]
                losses = losses_for(priced, told) or rows
                for _ in range(4):
                    changed = [(source.sample(lot, len(lot)), nests.pair_of(max(
                        Fraction(0), Fraction(*loss) + source.choice((0, 0, 0, Fraction(1, 3), -1, Fraction(5, 7))))))
                        for lot, loss in losses]
                    right = are_right(priced, told, changed)
                    seen[right] += 1
                    self.assertIs(are_losses_for(priced, told, source.sample(changed, len(changed))), right)
        self.assertGreater(min(seen.values()), 40)

    def test_any_object_as_losses(self):
        told = [((1, 1), AB)]
        losses = losses_for(NEST, told)
        turned = [[lot[::-1], list(loss)] for lot, loss in losses][::-1]
        self.assertIs(are_losses_for(NEST, told, turned), True)
        wrong = [losses[1:], losses + losses[:1], losses[:-1] + losses[:1], losses + [(["a", "c"], (9, 1))], tuple(losses[:3]),
                 [(lot, loss[0]) for lot, loss in losses], [(lot, loss, 1) for lot, loss in losses], [[]] * 7]
        for thing in odd_objects() + wrong:
            self.assertIs(are_losses_for(NEST, told, thing), False, thing)
        for thing in odd_objects() + NO_PRICES + [(2, 2), (True, 1)]:
            self.assertIs(are_losses_for(NEST, told, [(losses[0][0], thing)] + losses[1:]), False)
            if thing not in (["a"], ("a",)):
                self.assertIs(are_losses_for(NEST, told, [(thing, losses[0][1])] + losses[1:]), False)
            self.assertIs(are_losses_for(NEST, told, [thing] + losses[1:]), False)

    def test_sixty_places_and_twelve_told(self):
        places = [f"p{number:02d}" for number in range(60)]
        rows = [([place], 0, 1000) for place in places]
        rows += [(places[:size], 0, 1000 * size - 7 * size) for size in range(2, 61)]
        priced = Priced(rows)
        told = [((10 ** 8 + 17 * at, 10 ** 8 - at - 1), [places[:5 * at + 1]] + [[place] for place in places[5 * at + 1:]])
                for at in range(12)]
        told = [((Fraction(*price).numerator, Fraction(*price).denominator), lots) for price, lots in told]
        self.assertIsNone(prices_clash(priced, told))
        losses = losses_for(priced, told)
        self.assertIs(are_losses_for(priced, told[::-1], losses[::-1]), True)
        self.assertEqual(losses_for(Priced(rows[::-1]), [list(row) for row in told]), losses)
        # then the first two join from 0 on already
        self.assertIs(are_losses_for(priced, told, [losses[0], (losses[1][0], (0, 1))] + losses[2:]), False)


class Wrong(unittest.TestCase):

    def test_each_first_index(self):
        more = {"losses_for": (), "are_losses_for": (None,), "prices_clash": (), "joins_between": (None,)}
        fine = [((1, 1), AB), ((2, 1), TWO)]
        for function, _ in FUNCTIONS:
            for thing in odd_objects() + [((1, 1),), ((1, 1), AB, 1), ((1, 1), AB[1:]), ((4, 2), TWO), ((3, 1), TWO + [["a"]])]:
                self.assertEqual(raised(function, NEST, fine + [thing], *more[function.__name__]), (BadTold, 2))
                self.assertEqual(raised(function, NEST, [thing] + fine, *more[function.__name__]), (BadTold, 0))
                if not isinstance(thing, (list, tuple)):
                    self.assertEqual(raised(function, NEST, thing, *more[function.__name__]), (BadTold, 0))
                self.assertEqual(raised(function, NEST, fine + [((3, 1), thing)], *more[function.__name__]), (BadTold, 2))
            for thing in NO_PRICES:
                self.assertEqual(raised(function, NEST, [(thing, AB)], *more[function.__name__]), (BadTold, 0))
            for price in ((1, 1), [2, 1]):
                self.assertEqual(raised(function, NEST, fine + [(price, ALL)], *more[function.__name__]), (BadTold, 2))

    def test_lots_that_save_nothing(self):
        priced = Priced([(["a"], 0, 1), (["b"], 0, 1), (["c"], 0, 1), (["a", "c"], 0, 2), (["a", "b", "c"], 0, 3)])
        for function, names in FUNCTIONS:
            more = [None] * (len(names) - 2)
            self.assertEqual(raised(function, priced, [], *more), (SavesNothing, ["a", "b", "c"]))
            self.assertEqual(raised(function, priced, [None], *more), (BadTold, 0))
        half = Priced([(["a"], 0, 1), (["b"], 0, 1), (["c"], 0, 1), (["b", "c"], 0, 2), (["a", "b", "c"], 0, 3)])
        self.assertEqual(raised(joins_between, half, [], ["z"]), (SavesNothing, ["a", "b", "c"]))
        half = Priced([(["a"], 0, 1), (["b"], 0, 1), (["c"], 0, 1), (["c", "b"], 0, 2), (["a", "b", "c"], 0, 1)])
        self.assertEqual(raised(joins_between, half, [], ["z"]), (SavesNothing, ["b", "c"]))

    def test_errors_in_order(self):
        right = {"priced": NEST, "told": [], "lot": ["a", "b"], "thing": None}
        lots = [thing for thing in odd_objects() if thing not in (["a"], ("a",), ["a", "b"])]
        check_errors(self, FUNCTIONS, right, {"priced": (odd_objects() + [V], BadPriced)})
        check_errors(self, FUNCTIONS[3:], right, {"lot": (lots + NO_LOTS, NoLot)})
        clashing = [((1, 1), TWO), ((2, 1), ONES)]
        for told in ([], clashing):
            check_errors(self, FUNCTIONS[3:], dict(right, told=told), {"lot": ([["a"], ("d",)], NoParts)})


if __name__ == "__main__":
    unittest.main()
