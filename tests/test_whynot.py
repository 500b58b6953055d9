"""Points [66] and [67]: why two places are not in one lot, and from which price on they are."""

import random
import unittest
from fractions import Fraction

import nests
from helpers import NO_INTEGERS, R, V, W, check_errors, odd_objects, small_webs
from partswithin.best import coarsest
from partswithin.errors import BadPrice, BadPriced, BadWeb, NoPlace, SamePlace
from partswithin.hollows import hollows
from partswithin.priced import Priced
from partswithin.whose import hollows_under
from partswithin.whynot import is_why_not_with, together_from, why_apart, why_not_with
from plain import partings_by_ridges, sharings, under, webs_with_hollows
from test_worths import NO_PRICES

NEST = Priced(V)
OVER_WEBS = ((why_not_with, ["web", "place", "other"]), (is_why_not_with, ["web", "place", "other", "thing"]))
OVER_NESTS = ((together_from, ["priced", "place", "other"]), (why_apart, ["priced", "place", "other", "price"]))


def are_apart(lots, one, other):
    return not any(one in lot and other in lot for lot in lots)


def turned(thing):
    """The same with all lists turned about."""
    if isinstance(thing, (list, tuple)):
        parts = [turned(part) for part in thing]
        return parts[::-1] if isinstance(thing, list) else parts
    return thing


class WhyNot(unittest.TestCase):

    def test_the_examples(self):
        self.assertEqual(why_not_with(W, "a", "c"), ("some", [["a", "b"], ["c", "d", "e"]]))
        self.assertEqual(why_not_with(W, "a", "e"), ("never", [["a", "b"]], [["d", "e"]]))
        self.assertIsNone(why_not_with(W, "a", "b"))
        self.assertIs(is_why_not_with(W, "a", "e", ["never", [("b", "a")], (["e", "d"],)]), True)
        self.assertIs(is_why_not_with(W, "a", "c", ["some", [("e", "d", "c"), ["b", "a"]]]), True)
        self.assertIs(is_why_not_with(W, "a", "c", ("some", [["a", "b", "c"], ["d", "e"]])), False)

    def test_over_small_webs(self):
        seen = {"some": 0, "never": 0, None: 0}
        several = webs_with_hollows(small_webs(261, 500, 7, chance=0.35))
        for web in small_webs(260, 40) + [web for web in several if len(web.places()) > 5][:40]:
            known = partings_by_ridges(web)
            for one in web.places():
                for other in web.places():
                    if one == other:
                        continue
                    told = why_not_with(web, one, other)
                    apart = [lots for lots in known if are_apart(lots, one, other)]
                    seen[told if told is None else told[0]] += 1
                    if told is None:
                        self.assertEqual(apart, [])
                    elif told[0] == "never":
                        self.assertEqual(apart, known)
                        self.assertEqual(told, ("never", under(web, one), under(web, other)))
                        self.assertFalse(any(lot in told[2] for lot in told[1]))
                    else:
                        self.assertIn(told[1], apart)
                        self.assertNotEqual(apart, known)
                    self.assertIs(is_why_not_with(web, one, other, turned(told)), told is not None)
                    for lots in known[:6] + sharings(web.places())[:10]:
                        right = lots in apart and apart != known
                        self.assertIs(is_why_not_with(web, one, other, ("some", lots)), right)
                    never = ("never", hollows_under(web, one), hollows_under(web, other))
                    self.assertIs(is_why_not_with(web, one, other, never), apart == known)
        self.assertGreater(min(seen.values()), 40)

    def test_any_object(self):
        some = [["a", "b"], ["c", "d", "e"]]
        for thing in odd_objects() + [("some",), ("some", some, 1), ("never", [["a", "b"]], [["d", "e"]]), ("never", some), some,
                                      ("some", some[:1]), (["some"], some), ("some", None), ("some", [["a", "b"], ["c", "d", "e", "e"]])]:
            self.assertIs(is_why_not_with(W, "a", "c", thing), False, thing)
            self.assertIs(is_why_not_with(W, "a", "c", ("some", thing)), thing is some, thing)
            self.assertIs(is_why_not_with(W, "a", "b", thing), False, thing)
        for thing in odd_objects() + [("some", some), ("never", [["a", "b"]]), ("never", [["d", "e"]], [["a", "b"]]),
                                      ("never", [["a", "b"]], [["d", "e"], ["a", "b"]]), ("never", [], []), None]:
            self.assertIs(is_why_not_with(W, "a", "e", thing), False, thing)
            if thing not in ([["a", "b"]], [("a", "b")]):
                self.assertIs(is_why_not_with(W, "a", "e", ("never", thing, [["d", "e"]])), False, thing)
            self.assertIs(is_why_not_with(W, "a", "e", ("never", [["a", "b"]], thing)), False, thing)

    def test_wrong_things_in_order(self):
        places = [thing for thing in odd_objects() if thing not in ("a", "b")] + ["p", ["a"]]
        check_errors(self, OVER_WEBS, {"web": W, "place": "a", "other": "b", "thing": None},
                     {"web": (odd_objects()[:-14] + [V, NEST], BadWeb), "place": (places, NoPlace), "other": (places, NoPlace)})
        check_errors(self, OVER_WEBS, {"web": R, "place": "p", "thing": None}, {"other": (["p"], SamePlace)})
        self.assertEqual(len(hollows(R)), 2)


class Together(unittest.TestCase):

    def test_the_examples(self):
        self.assertEqual(together_from(NEST, "a", "b"), ((1, 1), ["a", "b"]))
        self.assertEqual(together_from(NEST, "d", "a"), ((12, 5), ["a", "b", "c", "d"]))
        self.assertEqual(why_apart(NEST, "a", "c", (2, 1)), ("dear", ["a", "b", "c", "d"], (2, 1)))
        self.assertEqual(why_apart(NEST, "b", "a", [1, 2]), ("dear", ["a", "b"], (1, 1)))
        self.assertIsNone(why_apart(NEST, "a", "c", (12, 5)))

    def test_never_and_in_no_lot(self):
        priced = Priced([(["a"], 0, 1), (["b"], 0, 1), (["c"], 0, 1), (["a", "b"], 1, 2)])
        self.assertEqual((together_from(priced, "a", "b"), together_from(priced, "a", "c")), (None, None))
        self.assertEqual(why_apart(priced, "a", "b", (9, 1)), ("dear", ["a", "b"], (1, 1)))
        self.assertEqual(why_apart(priced, "c", "b", (9, 1)), ("none",))
        # a greater lot joins ahead of the least one that has both
        priced = Priced([(["a"], 0, 4), (["b"], 0, 4), (["c"], 0, 4), (["a", "b"], 10, 6), (["a", "b", "c"], 12, 0)])
        self.assertEqual(together_from(priced, "a", "b"), ((1, 1), ["a", "b", "c"]))
        self.assertIsNone(why_apart(priced, "a", "b", (1, 1)))
        self.assertEqual(why_apart(priced, "a", "b", (1, 2)), ("dear", ["a", "b"], (9, 1)))
        # two join at one price: the greater one has both there
        priced = Priced([(["a"], 0, 1), (["b"], 0, 1), (["c"], 0, 2), (["a", "b"], 1, 1), (["a", "b", "c"], 2, 2)])
        self.assertEqual(together_from(priced, "b", "a"), ((1, 1), ["a", "b", "c"]))

    def test_over_small_nests(self):
        seen = {"dear": 0, "none": 0, None: 0}
        for priced in nests.small_nests(262, 60):
            row = nests.coarsest_by_price(priced)
            for one in priced.places():
                for other in priced.places():
                    if one == other:
                        continue
                    fits = [(nests.pair_of(price), lot) for price, lots in row for lot in lots if one in lot and other in lot]
                    told = together_from(priced, one, other)
                    self.assertEqual(told, fits[0] if fits else None)
                    if told is not None:
                        self.assertIsNone(why_apart(priced, one, other, told[0]))
                    for price, lots in row:
                        why = why_apart(priced, one, other, nests.pair_of(price))
                        self.check_apart(priced, one, other, price, lots, why)
                        seen[why if why is None else why[0]] += 1
        self.assertGreater(min(seen.values()), 100)

    def check_apart(self, priced, one, other, price, lots, why):
        self.assertEqual(why is None, not are_apart(lots, one, other))
        both = [lot for lot, _, _ in priced.rows() if one in lot and other in lot]
        if why is not None:
            self.assertEqual(why == ("none",), both == [])
        if why is not None and both:
            least = min(both, key=len)
            price = nests.pair_of(price)
            number = nests.worth_of(priced, [least], price) - min(
                nests.worth_of(priced, chosen, price) for chosen in nests.parting_lots(priced, least))
            self.assertEqual(why, ("dear", least, (number.numerator, number.denominator)))
            self.assertGreater(number, 0)

    def test_two_hundred_places(self):
        source = random.Random(263)
        priced = Priced(nests.halves(200))
        for _ in range(10):
            one, other = source.sample(priced.places(), 2)
            price, lot = together_from(priced, one, other)
            self.assertIn(lot, coarsest(priced, price))
            over, under = price
            self.assertIsNone(why_apart(priced, one, other, price))
            ahead = Fraction(over, under) - Fraction(1, 1000 * under)
            self.assertEqual(why_apart(priced, one, other, nests.pair_of(ahead))[0], "dear")

    def test_wrong_things_in_order(self):
        places = [thing for thing in odd_objects() if thing not in ("a", "b")] + ["e", ["a"], ("a",)]
        check_errors(self, OVER_NESTS, {"priced": NEST, "place": "a", "other": "b", "price": (1, 1)},
                     {"priced": (odd_objects() + [V, W], BadPriced), "place": (places, NoPlace), "other": (places, NoPlace),
                      "price": (odd_objects() + NO_PRICES + NO_INTEGERS, BadPrice)})
        check_errors(self, OVER_NESTS, {"priced": NEST, "place": "a", "price": None}, {"other": (["a"], SamePlace)})


if __name__ == "__main__":
    unittest.main()
