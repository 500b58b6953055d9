"""Points [25] and [26]: the hollows under places, and falls within lots."""

import itertools
import random
import unittest

from helpers import NONE, R, W, odd_objects, raised, small_webs, subsets
from partswithin.errors import BadHollow, BadLot, BadWeb, NoPlace
from partswithin.hollows import hollows
from partswithin.stuck import fall_within, stuck
from partswithin.webs import Web
from partswithin.whose import fall_to, hollows_under, shared_places, sure_places
from plain import owners_by_ridges, reached, under
from test_hollows import PLATEAU, is_row_of_falls


class Under(unittest.TestCase):

    def test_the_examples(self):
        self.assertEqual(hollows_under(W, "c"), [["a", "b"], ["d", "e"]])
        self.assertEqual(hollows_under(W, "a"), [["a", "b"]])
        self.assertEqual(shared_places(W), ["c"])
        self.assertEqual(sure_places(R, ["q", "p"]), ["p", "q", "t"])
        self.assertEqual(sure_places(W, ("e", "d")), ["d", "e"])
        self.assertEqual((sure_places(PLATEAU, ["z"]), hollows_under(PLATEAU, "z")), (["z"], [["z"]]))
        self.assertEqual((shared_places(NONE), shared_places(R)), ([], []))

    def test_falls_to_a_hollow(self):
        self.assertEqual(fall_to(W, "c", ["b", "a"]), ["c", "b"])
        self.assertEqual(fall_to(W, "c", ("d", "e")), ["c", "d"])
        self.assertEqual(fall_to(W, "a", ["a", "b"]), ["a"])
        self.assertIsNone(fall_to(W, "a", ["d", "e"]))
        self.assertEqual(fall_to(PLATEAU, "g", ["c", "d"]), ["g", "a", "b", "c"])

    def test_over_small_webs(self):
        for web in small_webs(50, 150, 7, chance=0.45):
            for place in web.places():
                pits = under(web, place)
                self.assertGreaterEqual(len(pits), 1)
                self.assertEqual(hollows_under(web, place), pits)
                for pit in hollows(web):
                    row = fall_to(web, place, pit[::-1])
                    self.assertEqual(row is None, pit not in pits)
                    if row is not None:
                        self.assertTrue(is_row_of_falls(web, row))
                        self.assertEqual(row[0], place)
                        self.assertIn(row[-1], pit)
                        self.assertFalse(any(stop in other for stop in row[:-1] for other in hollows(web)))
            for pit in hollows(web):
                self.assertEqual(sure_places(web, pit),
                                 [place for place in web.places() if under(web, place) == [pit]])
            self.assertEqual(shared_places(web),
                             [place for place in web.places() if len(under(web, place)) > 1])

    def test_in_partings_by_ridges(self):
        for web in small_webs(51, 60, 6, chance=0.5):
            pits = hollows(web)
            found = {place: set() for place in web.places()}
            for own in owners_by_ridges(web):
                for place in web.places():
                    found[place].add(own[place])
            for place in web.places():
                self.assertEqual([pits[at] for at in sorted(found[place])], hollows_under(web, place))

    def test_wrong_things(self):
        for thing in odd_objects():
            for function in (lambda web, hollow: fall_to(web, "a", hollow), sure_places):
                try:
                    function(W, thing)
                    self.fail(thing)
                except BadHollow as error:
                    self.assertIs(error.thing, thing)
            if thing not in ("a", "b"):
                self.assertEqual(raised(hollows_under, W, thing)[0], NoPlace)
                self.assertEqual(raised(fall_to, W, thing, thing)[0], NoPlace)
            if not isinstance(thing, Web):
                for function in (hollows_under, fall_to, sure_places, shared_places):
                    things = [thing] * (function.__code__.co_argcount)
                    self.assertEqual(raised(function, *things)[0], BadWeb)
        for thing in (["a"], ["a", "b", "c"], ["c"], ["a", "b", "a"], ["a", "e"], []):
            self.assertEqual(raised(sure_places, W, thing), (BadHollow, thing))

    def test_two_hundred_places(self):
        web = Web([f"p{number}" for number in range(200)],
                  [(f"p{number}", f"p{number + 1}", abs(number % 40 - 20)) for number in range(199)])
        pits = hollows(web)
        self.assertEqual(len(pits), 5)
        self.assertEqual(sum(len(sure_places(web, pit)) for pit in pits) + len(shared_places(web)), 200)
        self.assertEqual(fall_to(web, "p0", hollows_under(web, "p0")[0]), [f"p{number}" for number in range(21)])


class Within(unittest.TestCase):

    def test_the_example(self):
        self.assertEqual(stuck(W, ["c", "d"], "c"), ["c", "d"])
        self.assertIsNone(fall_within(W, ["c", "d"], "c"))
        self.assertIsNone(stuck(W, ("b", "a", "c"), "c"))
        self.assertEqual(fall_within(W, ("b", "a", "c"), "c"), ["c", "b"])
        self.assertEqual(fall_within(W, ["d", "e", "c"], "d"), ["d"])

    def test_a_fall_that_stays_is_not_enough(self):
        web = Web(list("abcd"), [("a", "b", 2), ("b", "c", 2), ("c", "d", 1)])
        self.assertEqual(stuck(web, ["a", "b"], "a"), ["a", "b"])
        self.assertEqual(stuck(web, ["a", "b", "c"], "a"), ["a", "b", "c"])
        self.assertEqual(fall_within(web, list("dcba"), "a"), ["a", "b", "c"])
        self.assertEqual(stuck(web, ["a", "c", "d"], "a"), ["a"])

    def test_just_one_over_small_webs(self):
        for web in small_webs(52, 70, 5):
            for lot in subsets(web.places()):
                whole = [place for pit in hollows(web) if set(pit) <= set(lot) for place in pit]
                for place in lot:
                    row, lots = fall_within(web, lot[::-1], place), stuck(web, lot[::-1], place)
                    self.assertNotEqual(row is None, lots is None)
                    found = reached(web, place, lot)
                    self.assertEqual(lots is None, any(stop in whole for stop in found))
                    if row is None:
                        self.assertEqual(lots, sorted(found))
                    else:
                        self.assertTrue(is_row_of_falls(web, row))
                        self.assertEqual((row[0], set(row) <= set(lot)), (place, True))
                        self.assertEqual([stop in whole for stop in row], [False] * (len(row) - 1) + [True])

    def test_wrong_things(self):
        for function in (fall_within, stuck):
            for thing in odd_objects():
                if not isinstance(thing, (list, tuple)):
                    self.assertEqual(raised(function, W, thing, None), (BadLot, 0))
                if thing not in ("a", "b"):
                    self.assertEqual(raised(function, W, ["c", "b", thing], None), (BadLot, 2))
                if not isinstance(thing, Web):
                    self.assertEqual(raised(function, thing, None, None)[0], BadWeb)
                try:
                    function(W, ["d", "c"], thing)
                    self.fail(thing)
                except NoPlace as error:
                    self.assertIs(error.thing, thing)
            self.assertEqual(raised(function, W, [], "a"), (NoPlace, "a"))
            self.assertEqual(raised(function, W, ["a", "c", "a", 5], "x"), (BadLot, 2))
            self.assertEqual(raised(function, W, ["a", "f"], "x"), (BadLot, 1))
            self.assertEqual(raised(function, W, [["a"], "f"], "x"), (BadLot, 0))

    def test_two_hundred_places(self):
        source = random.Random(4)
        places = [f"p{number}" for number in range(200)]
        pairs = source.sample(list(itertools.combinations(places, 2)), 600)
        web = Web(places, [(one, other, source.randint(0, 3)) for one, other in pairs])
        lot = source.sample(places, 120)
        for place in lot:
            self.assertNotEqual(fall_within(web, lot, place) is None, stuck(web, lot, place) is None)


if __name__ == "__main__":
    unittest.main()
