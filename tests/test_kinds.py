"""Points [34] to [36]: which places are in one lot, and which in unlike ones, of partings by ridges."""

import itertools
import random
import unittest

from helpers import R, W, is_tied, odd_objects, raised, small_webs
from partswithin.errors import BadWeb, NoPlace, NoTie, SamePlace
from partswithin.hollows import hollow_of, hollows
from partswithin.kinds import all_over, falls_apart, falls_together, is_all_over, tie_kind
from partswithin.webs import Web
from plain import owners_by_ridges, rows_to_hollows, webs_with_hollows

FUNCTIONS = (tie_kind, falls_apart, all_over, is_all_over, falls_together)
# from a and b falls lead to two hollows, but over c alone
NECK = Web(list("abcdefgh"), [("a", "c", 5), ("b", "c", 5), ("c", "d", 4), ("c", "e", 4), ("d", "f", 1),
                              ("e", "g", 1), ("a", "h", 9)])


def some_webs():
    return webs_with_hollows(small_webs(80, 500, 7, chance=0.35, most=1))[:60] + small_webs(81, 30, 5)


def plain_things(web, one, other):
    """All things that all rows of falls to hollows from both go over, by the words of [35]."""
    rows = rows_to_hollows(web, one) + rows_to_hollows(web, other)
    things = [("place", place) for place in web.places() if all(place in row for row in rows)]
    return things + [("hollow", pit) for pit in hollows(web) if all(row[-1] in pit for row in rows)]


def told_otherwise(web):
    """All things of the forms that is_all_over lets by, for a web."""
    return ([("place", place) for place in web.places()] + [("hollow", pit) for pit in hollows(web)]
            + [("hollow", [place]) for place in web.places() if [place] not in hollows(web)])


class Kinds(unittest.TestCase):

    def test_the_examples(self):
        self.assertEqual(tie_kind(W, "b", "c"), "some")
        self.assertEqual(tie_kind(W, "c", "b"), "some")
        self.assertEqual(tie_kind(W, "a", "b"), "no")
        self.assertEqual([tie_kind(R, one, other) for one, other, _ in R.ties()], ["no", "no", "every", "no", "every"])
        self.assertEqual(tie_kind(NECK, "a", "h"), "no")

    def test_over_small_webs(self):
        stood = {}
        for web in some_webs():
            found = list(owners_by_ridges(web))
            for one, other, _ in web.ties():
                apart = [own[one] != own[other] for own in found]
                kind = "every" if all(apart) else "some" if any(apart) else "no"
                self.assertEqual((tie_kind(web, one, other), tie_kind(web, other, one)), (kind, kind))
                stood[kind] = True
        self.assertEqual(len(stood), 3)

    def test_no_tie_behind_no_place(self):
        self.assertEqual(raised(tie_kind, W, "a", "c"), (NoTie, "a", "c"))
        self.assertEqual(raised(tie_kind, W, "c", "a"), (NoTie, "c", "a"))
        self.assertEqual(raised(tie_kind, W, "a", "a"), (NoTie, "a", "a"))
        self.assertEqual(raised(tie_kind, W, "x", "x"), (NoPlace, "x"))
        self.assertEqual(raised(tie_kind, W, "x", "y"), (NoPlace, "x"))
        self.assertEqual(raised(tie_kind, W, "a", "y"), (NoPlace, "y"))


class Apart(unittest.TestCase):

    def test_the_example(self):
        self.assertEqual(all_over(W, "a", "b"), ("hollow", ["a", "b"]))
        self.assertIsNone(falls_apart(W, "a", "b"))
        self.assertEqual(falls_apart(W, "b", "c"), (["b"], ["c", "d"]))
        self.assertEqual(falls_apart(W, "c", "d"), (["c", "b"], ["d"]))
        self.assertIsNone(all_over(W, "c", "d"))

    def test_a_place_that_is_one_of_both(self):
        web = Web(list("abcdef"), [("a", "b", 3), ("b", "c", 2), ("b", "d", 2), ("c", "e", 1), ("d", "f", 1)])
        self.assertEqual(all_over(web, "a", "b"), ("place", "b"))
        self.assertTrue(is_all_over(web, "b", "a", ["place", "b"]))
        self.assertFalse(is_all_over(web, "b", "a", ["place", "a"]))
        self.assertEqual(all_over(NECK, "a", "b"), ("place", "c"))
        self.assertEqual(falls_apart(NECK, "d", "e"), (["d"], ["e"]))

    def test_just_one_over_small_webs(self):
        for web in some_webs():
            found = list(owners_by_ridges(web))
            for one, other in itertools.permutations(web.places(), 2):
                pair, thing = falls_apart(web, one, other), all_over(web, one, other)
                self.assertNotEqual(pair is None, thing is None)
                self.assertEqual(pair is not None, any(own[one] != own[other] for own in found))
                things = plain_things(web, one, other)
                if pair is None:
                    self.assertIn(thing, things)
                else:
                    self.assertIsInstance(pair, tuple)
                    self.assertIn(pair[0], rows_to_hollows(web, one))
                    self.assertIn(pair[1], rows_to_hollows(web, other))
                    self.assertFalse(set(pair[0]) & set(pair[1]))
                    self.assertNotEqual(hollow_of(web, pair[0][-1]), hollow_of(web, pair[1][-1]))
                for told in told_otherwise(web):
                    self.assertEqual(is_all_over(web, one, other, told), told in things)

    def test_any_object(self):
        for thing in odd_objects() + [("place", "f"), ("place", 1), ("hollow", "ab"), ("hollow", ["a"]),
                                      ("hollow", ["a", "a", "b"]), ("hollow", ["d", "e"]), ("place", None),
                                      ("place", ["a"]), ("place",), ("hollow", ["a", "b"], 1), (W, "a"),
                                      ("place", "c"), ({}, []), ([], "a"), ("place", W)]:
            self.assertIs(is_all_over(W, "a", "b", thing), False, thing)
        self.assertIs(is_all_over(W, "a", "b", ["hollow", ("b", "a")]), True)
        self.assertIs(is_all_over(NECK, "a", "b", ("place", "c")), True)
        for thing in (("hollow", "c"), ("place", ["c"]), ("hollow", ["c"]), ("places", "c")):
            self.assertIs(is_all_over(NECK, "a", "b", thing), False)

    def test_places_in_parts_apart(self):
        web = Web(list("abcd"), [("a", "b", 0)])
        self.assertEqual(falls_apart(web, "c", "b"), (["c"], ["b"]))
        self.assertIsNone(falls_together(web, "c", "d"))

    def test_two_hundred_places(self):
        source = random.Random(9)
        places = [f"p{number}" for number in range(200)]
        pairs = source.sample(list(itertools.combinations(places, 2)), 600)
        web = Web(places, [(one, other, source.randint(0, 5)) for one, other in pairs])
        for _ in range(100):
            one, other = source.sample(places, 2)
            pair, thing = falls_apart(web, one, other), all_over(web, one, other)
            self.assertNotEqual(pair is None, thing is None)
            if pair is None:
                self.assertTrue(is_all_over(web, one, other, thing))
            else:
                self.assertFalse(set(pair[0]) & set(pair[1]))


class Together(unittest.TestCase):

    def test_the_web_of_the_examples(self):
        self.assertEqual(falls_together(W, "c", "a"), (["c", "b"], ["a"]))
        self.assertEqual(falls_together(W, "a", "b"), (["a"], ["b"]))
        self.assertIsNone(falls_together(W, "a", "e"))
        self.assertIsNone(falls_together(R, "q", "r"))

    def test_over_small_webs(self):
        for web in some_webs():
            found = list(owners_by_ridges(web))
            for one, other in itertools.permutations(web.places(), 2):
                pair = falls_together(web, one, other)
                self.assertEqual(pair is not None, any(own[one] == own[other] for own in found))
                if pair is not None:
                    self.assertIsInstance(pair, tuple)
                    self.assertIn(pair[0], rows_to_hollows(web, one))
                    self.assertIn(pair[1], rows_to_hollows(web, other))
                    self.assertEqual(hollow_of(web, pair[0][-1]), hollow_of(web, pair[1][-1]))


class Wrong(unittest.TestCase):

    def test_each_error_in_order(self):
        for function in FUNCTIONS:
            more = [None] * (function.__code__.co_argcount - 3)
            for thing in odd_objects():
                if not isinstance(thing, Web):
                    self.assertEqual(raised(function, thing, None, None, *more)[0], BadWeb)
                if thing in ("a", "b"):
                    continue
                for things in ((thing, None), ("a", thing)):
                    try:
                        function(W, *things, *more)
                        self.fail(thing)
                    except NoPlace as error:
                        self.assertIs(error.thing, thing)
            if function != tie_kind:
                self.assertEqual(raised(function, W, "c", "c", *more), (SamePlace, "c"))
                self.assertEqual(raised(function, W, "x", "x", *more), (NoPlace, "x"))

    def test_ties_are_not_asked_where_they_need_not_be(self):
        self.assertFalse(is_tied(W, "a", "e"))
        self.assertEqual(falls_apart(W, "a", "e"), (["a"], ["e"]))


if __name__ == "__main__":
    unittest.main()
