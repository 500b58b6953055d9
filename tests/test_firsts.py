"""Point [37]: partings by an order of hollows, and the ridges between lots."""

import itertools
import random
import unittest

from helpers import NONE, R, W, odd_objects, raised, small_webs
from partswithin.errors import BadOrder, BadParting, BadWeb, NoPlace
from partswithin.firsts import first_parting, ridge_pass
from partswithin.hollows import hollow_of, hollows
from partswithin.levels import level
from partswithin.ridges import by_ridges, ridge_fault
from partswithin.webs import Web
from plain import sharings, under, webs_with_hollows
from test_ridges import is_parting


def some_webs():
    return webs_with_hollows(small_webs(90, 400, 7, chance=0.35, most=1))[:50] + small_webs(91, 30, 5)


def plain_pass(web, lots, one, other):
    """The least height at which a row of lots leads on, by trying all heights upward."""
    lot_of = {place: at for at, lot in enumerate(lots) for place in lot}
    if lot_of[one] == lot_of[other]:
        return None
    for height in sorted(tie[2] for tie in web.ties()):
        found = [lot_of[one]]
        for at in found:
            for low, high, own in web.ties():
                if own <= height and at in (lot_of[low], lot_of[high]):
                    found += [near for near in (lot_of[low], lot_of[high]) if near not in found]
        if lot_of[other] in found:
            return height
    return None


class Firsts(unittest.TestCase):

    def test_the_examples(self):
        self.assertEqual(first_parting(W, [["d", "e"], ["a", "b"]]), [["a", "b"], ["c", "d", "e"]])
        self.assertEqual(first_parting(W, (("b", "a"), ("e", "d"))), [["a", "b", "c"], ["d", "e"]])
        self.assertEqual(first_parting(R, [["s", "r"], ["p", "q"]]), [["p", "q", "t"], ["r", "s"]])
        self.assertEqual((first_parting(NONE, []), first_parting(NONE, ())), ([], []))
        self.assertEqual(first_parting(Web(["b", "a"], []), [["b"], ["a"]]), [["a"], ["b"]])

    def test_over_small_webs(self):
        for web in some_webs():
            for order in itertools.permutations(hollows(web)):
                left = web.places()
                lots = []
                for pit in order:
                    lots.append([place for place in left if pit in under(web, place)])
                    left = [place for place in left if place not in lots[-1]]
                told = first_parting(web, [pit[::-1] for pit in order])
                self.assertEqual(told, sorted(lots))
                self.assertIsNone(ridge_fault(web, told))

    def test_bad_orders(self):
        for thing in odd_objects():
            if not isinstance(thing, (list, tuple)):
                self.assertEqual(raised(first_parting, W, thing), (BadOrder, 0))
            self.assertEqual(raised(first_parting, W, [["b", "a"], thing, 5]), (BadOrder, 1))
            if not isinstance(thing, Web):
                self.assertEqual(raised(first_parting, thing, 5)[0], BadWeb)
        self.assertEqual(raised(first_parting, W, []), (BadOrder, 0))
        self.assertEqual(raised(first_parting, W, [["d", "e"]]), (BadOrder, 1))
        self.assertEqual(raised(first_parting, W, [["d", "e"], ["e", "d"], ["a", "b"]]), (BadOrder, 1))
        self.assertEqual(raised(first_parting, W, [["d", "e"], ["a", "b"], ["a", "b"]]), (BadOrder, 2))
        self.assertEqual(raised(first_parting, W, [["d", "e"], ["a"]]), (BadOrder, 1))
        self.assertEqual(raised(first_parting, W, [["d", "e", "c"], ["a", "b"]]), (BadOrder, 0))
        self.assertEqual(raised(first_parting, W, [["d", "e"], ["a", "b", "b"]]), (BadOrder, 1))
        self.assertEqual(raised(first_parting, NONE, [[]]), (BadOrder, 0))


class Passes(unittest.TestCase):

    def test_examples(self):
        lots = [["e", "d"], ["a", "b", "c"]]
        self.assertEqual(ridge_pass(W, lots, "a", "e"), 2)
        self.assertEqual(ridge_pass(W, lots, "c", "d"), 2)
        self.assertIsNone(ridge_pass(W, lots, "a", "c"))
        self.assertIsNone(ridge_pass(W, lots, "a", "a"))
        self.assertEqual(ridge_pass(R, [["p", "q", "t"], ["r", "s"]], "t", "r"), 4)
        apart = Web(list("abcd"), [("a", "b", 0), ("c", "d", 0)])
        self.assertIsNone(ridge_pass(apart, [["a", "b"], ["c", "d"]], "a", "c"))

    def test_a_parting_need_not_be_by_ridges(self):
        web = Web(list("abcdef"), [("a", "b", 0), ("b", "c", 3), ("c", "d", 1), ("d", "e", 0), ("c", "f", 2)])
        lots = [["a", "b", "c", "f"], ["d", "e"]]
        self.assertEqual(ridge_fault(web, lots)[0], "fall")
        self.assertEqual(ridge_pass(web, lots, "f", "e"), 1)

    def test_over_small_webs(self):
        for web in some_webs():
            partings = [lots for lots in sharings(web.places()) if is_parting(web, lots)][:25]
            for lots in partings:
                for one, other in itertools.product(web.places(), repeat=2):
                    told = ridge_pass(web, lots[::-1], one, other)
                    self.assertEqual(told, plain_pass(web, lots, one, other))
                    if ridge_fault(web, lots) is None and one != other:
                        pits = [hollow_of(web, one), hollow_of(web, other)]
                        if None not in pits and pits[0] != pits[1]:
                            self.assertEqual(told, level(web, one, other))

    def test_wrong_things(self):
        lots = by_ridges(W)
        for thing in odd_objects() + [[["a", "b"], ["c"], ["d", "e"]], [["a", "b"], ["d", "e"]]]:
            if not isinstance(thing, Web):
                self.assertEqual(raised(ridge_pass, thing, None, None, None)[0], BadWeb)
            try:
                ridge_pass(W, thing, None, None)
                self.fail(thing)
            except BadParting as error:
                self.assertIs(error.thing, thing)
            if thing not in ("a", "b"):
                for things in ((thing, None), ("a", thing)):
                    try:
                        ridge_pass(W, lots, *things)
                        self.fail(thing)
                    except NoPlace as error:
                        self.assertIs(error.thing, thing)
        self.assertEqual(raised(ridge_pass, NONE, [], "a", "a"), (NoPlace, "a"))

    def test_two_hundred_places(self):
        source = random.Random(10)
        places = [f"p{number}" for number in range(200)]
        pairs = source.sample(list(itertools.combinations(places, 2)), 600)
        web = Web(places, [(one, other, source.randint(0, 20)) for one, other in pairs])
        pits = hollows(web)
        lots = first_parting(web, source.sample(pits, len(pits)))
        self.assertIsNone(ridge_fault(web, lots))
        for _ in range(40):
            one, other = source.sample(pits, 2)
            self.assertEqual(ridge_pass(web, lots, one[0], other[-1]), level(web, one[0], other[-1]))


if __name__ == "__main__":
    unittest.main()
