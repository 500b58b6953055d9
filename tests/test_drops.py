"""Points [27] and [28]: drops, and what bars them."""

import itertools
import random
import unittest

from helpers import NONE, NO_INTEGERS, W, a_function, odd_objects, raised, small_webs, subsets
from partswithin.drops import arrivals, drop, is_bar, is_drop
from partswithin.errors import BadHeight, BadLot, BadWeb, NoPlace
from partswithin.hollows import hollows
from partswithin.webs import Web
from plain import heights_of, never_rises, ways_within

HEIGHTS = (-2, -1, 0, 1, 2, 3)


def whole_in(web, lot):
    return [place for pit in hollows(web) if set(pit) <= set(lot) for place in pit]


def starts(webs):
    """All webs, lots and places within them, each with a height."""
    source = random.Random(3)
    for web in webs:
        for lot in subsets(web.places(), 1):
            for place in lot:
                yield web, lot[::-1], place, source.choice(HEIGHTS)


def plain_drops(web, lot, place, height):
    own = heights_of(web)
    whole = whole_in(web, lot)
    return [way for way in ways_within(own, lot, place) if never_rises(own, way, height) and way[-1] in whole]


def plain_arrivals(web, lot, place, height):
    own = heights_of(web)
    found = {place: height}
    for way in ways_within(own, lot, place):
        if len(way) > 1 and never_rises(own, way, height):
            found[way[-1]] = max(own[way[-2], way[-1]], found.get(way[-1], own[way[-2], way[-1]]))
    return found


def is_plain_bar(web, lot, place, height, bar):
    """By the words of [28], of a dict from places of the lot to integers."""
    if place not in bar or bar[place] < height or set(bar) & set(whole_in(web, lot)):
        return False
    own = heights_of(web)
    return all(other in bar and bar[other] >= own[one, other]
               for one, other in own if one in bar and other in lot and own[one, other] <= bar[one])


class Drops(unittest.TestCase):

    def test_the_example(self):
        self.assertEqual(drop(W, ["a", "b", "c"], "c", 5), ["c", "b"])
        self.assertIsNone(drop(W, ("a", "b", "c"), "c", 1))
        self.assertTrue(is_drop(W, ["a", "b", "c"], "c", 5, ["c", "b"]))
        self.assertTrue(is_drop(W, ["a", "b", "c"], "c", 2, ("c", "b", "a")))
        self.assertFalse(is_drop(W, ["a", "b", "c"], "c", 1, ["c", "b"]))

    def test_a_place_of_a_hollow_alone(self):
        self.assertEqual(drop(W, ["a", "b"], "a", -9), ["a"])
        self.assertTrue(is_drop(W, ["a", "b"], "a", -9, ["a"]))
        self.assertEqual(drop(Web(["z"], []), ["z"], "z", 0), ["z"])
        self.assertIsNone(drop(W, ["a"], "a", 9))
        self.assertIsNone(drop(W, ["b", "c", "d"], "c", 9))

    def test_a_drop_may_leave_the_hollow_it_goes_through(self):
        web = Web(list("abcd"), [("a", "b", 1), ("b", "c", 2), ("c", "d", 1)])
        self.assertFalse(is_drop(web, list("abcd"), "a", 2, list("abcd")))
        level = Web(list("abc"), [("a", "b", 1), ("b", "c", 1)])
        self.assertTrue(is_drop(level, list("abc"), "a", 1, list("abc")))
        self.assertTrue(is_drop(level, list("abc"), "a", 1, ["a"]))

    def test_over_small_webs(self):
        for web, lot, place, height in starts(small_webs(60, 60, 4) + small_webs(61, 15, 5, chance=0.5)):
            found = plain_drops(web, lot, place, height)
            told = drop(web, lot, place, height)
            self.assertEqual(told is None, found == [])
            if told is not None:
                self.assertIn(told, found)
            for many in range(5):
                for row in itertools.permutations(web.places(), many):
                    self.assertEqual(is_drop(web, lot, place, height, row), list(row) in found)

    def test_any_object(self):
        for thing in odd_objects() + [["a", "b", "a"], ["b", "a"], ["a", "c"], ["a", "d"], "ab"]:
            right = thing in (["a"], ("a",), ["a", "b"], ("a", "b"))
            self.assertIs(is_drop(W, list("abcd"), "a", 1, thing), right, thing)

    def test_a_row_out_of_the_lot_is_none(self):
        self.assertFalse(is_drop(W, ["a", "b", "c"], "c", 5, ["c", "d"]))
        self.assertFalse(is_drop(W, ["c", "d", "e"], "c", 5, ["c", "b", "a"]))

    def test_two_hundred_places_and_six_hundred_ties(self):
        source = random.Random(6)
        places = [f"p{number}" for number in range(200)]
        pairs = source.sample(list(itertools.combinations(places, 2)), 600)
        web = Web(places, [(one, other, source.randint(0, 9)) for one, other in pairs])
        lot = source.sample(places, 150)
        for place in lot:
            row = drop(web, lot, place, 7)
            least = arrivals(web, lot, place, 7)
            self.assertEqual(is_bar(web, lot, place, 7, least), row is None)
            if row is not None:
                self.assertTrue(is_drop(web, lot, place, 7, row))


class Bars(unittest.TestCase):

    def test_the_examples(self):
        self.assertEqual(arrivals(W, ["a", "b", "c"], "c", 1), {"c": 1})
        self.assertEqual(arrivals(W, ["d", "c", "b", "a"], "d", 9), {"a": 1, "b": 2, "c": 2, "d": 9})
        self.assertEqual(list(arrivals(W, ["d", "c", "b", "a"], "d", 9)), ["a", "b", "c", "d"])
        self.assertTrue(is_bar(W, ["a", "b", "c"], "c", 1, {"c": 1}))
        self.assertFalse(is_bar(W, ["a", "b", "c"], "c", 1, {"c": 2}))
        self.assertFalse(is_bar(W, ["a", "b", "c"], "c", 1, {"c": 0}))
        self.assertFalse(is_bar(W, ["a", "b", "c"], "c", 1, {"b": 2}))

    def test_heights_below_0(self):
        web = Web(list("abc"), [("a", "b", -3), ("b", "c", -1)])
        self.assertEqual(arrivals(web, list("abc"), "c", -1), {"a": -3, "b": -1, "c": -1})
        self.assertEqual(arrivals(web, list("abc"), "c", -2), {"c": -2})
        self.assertTrue(is_bar(web, ["b", "c"], "c", 0, {"c": 0, "b": -1}))
        self.assertFalse(is_bar(web, ["b", "c"], "c", 0, {"c": 0, "b": -2}))

    def test_arrivals_by_the_words(self):
        for web, lot, place, height in starts(small_webs(62, 120, 5)):
            told = arrivals(web, lot, place, height)
            self.assertEqual(told, plain_arrivals(web, lot, place, height))
            self.assertEqual(list(told), sorted(told))

    def test_just_one_of_a_drop_and_a_bar(self):
        for web, lot, place, height in starts(small_webs(63, 25, 4, least=0)):
            least = arrivals(web, lot, place, height)
            bars = []
            for told in itertools.product((None, -1, 0, 1, 2, 3), repeat=len(lot)):
                bar = {stop: own for stop, own in zip(lot, told) if own is not None}
                self.assertEqual(is_bar(web, lot, place, height, bar),
                                 is_plain_bar(web, lot, place, height, bar))
                if is_bar(web, lot, place, height, bar):
                    bars.append(bar)
            if drop(web, lot, place, height) is None:
                self.assertTrue(is_bar(web, lot, place, height, least))
                for bar in bars:
                    self.assertTrue(all(stop in bar and bar[stop] >= least[stop] for stop in least))
            else:
                self.assertEqual(bars, [])

    def test_any_object(self):
        bars = [{"c": True}, {"c": None}, {"c": "1"}, {"c": 1, 1: 1}, {"c": 1, None: 1}, {"c": 1, "f": 1},
                {"c": 1, "d": 1}, {"c": 1, ("b",): 1}, {"c": 1, a_function: 1}, {"c": 1, "b": []}, [("c", 1)]]
        for thing in odd_objects() + bars:
            self.assertIs(is_bar(W, ["a", "b", "c"], "c", 1, thing), False, thing)

    def test_a_place_in_a_whole_hollow_is_in_no_bar(self):
        self.assertFalse(is_bar(W, ["a", "b", "c"], "c", 1, {"c": 1, "a": 0}))
        self.assertTrue(is_bar(W, ["a", "c"], "c", 1, {"c": 1, "a": 0}))
        self.assertTrue(is_bar(W, ["a", "c"], "c", 1, {"c": 10 ** 20}))


class Wrong(unittest.TestCase):

    def test_each_error_in_order(self):
        for function, more in ((drop, ()), (is_drop, (None,)), (arrivals, ()), (is_bar, (None,))):
            for thing in odd_objects():
                if not isinstance(thing, Web):
                    self.assertEqual(raised(function, thing, None, None, None, *more)[0], BadWeb)
                if not isinstance(thing, (list, tuple)):
                    self.assertEqual(raised(function, W, thing, None, None, *more), (BadLot, 0))
                if thing not in ("a", "b"):
                    self.assertEqual(raised(function, W, ["b", "c", thing, "b"], 1, None, *more), (BadLot, 2))
                try:
                    function(W, ["d", "c"], thing, None, *more)
                    self.fail(thing)
                except NoPlace as error:
                    self.assertIs(error.thing, thing)
            for thing in NO_INTEGERS:
                try:
                    function(W, ["a", "b"], "a", thing, *more)
                    self.fail(thing)
                except BadHeight as error:
                    self.assertIs(error.thing, thing)
            self.assertEqual(raised(function, W, [], "a", None, *more), (NoPlace, "a"))
            self.assertEqual(raised(function, NONE, [], "a", 1, *more), (NoPlace, "a"))
            self.assertEqual(raised(function, W, ["a", "c", "a"], "a", 1, *more), (BadLot, 2))


if __name__ == "__main__":
    unittest.main()
