"""Point [41]: levels of ways to roots, and raised heights."""

import itertools
import random
import unittest

from helpers import NONE, R, W, odd_objects, raised as error_raised, small_webs
from partswithin.errors import BadRoots, BadWeb, NoRoot
from partswithin.hollows import floor, hollows
from partswithin.levels import parts
from partswithin.raising import levels_to, raised
from partswithin.webs import Web
from plain import heights_of, rooted, ways_within

# the example of [47]
FIVE = Web(list("abcde"), [("a", "b", 1), ("b", "c", 4), ("c", "d", 2), ("d", "e", 3)])


def free_ties(web, roots):
    return [tie for tie in web.ties() if not any(set(tie[:2]) <= set(root) for root in roots)]


def leads_on(told, inside):
    """Whether from each tie one can go on over ties that never rise to a place of a root."""
    for tie in told:
        found = [tie]
        for one, other, height in found:
            found += [near for near in told if near not in found and near[2] <= height
                      and {one, other} & set(near[:2])]
        if not any(set(near[:2]) & set(inside) for near in found):
            return False
    return True


class Levels(unittest.TestCase):

    def test_the_examples(self):
        self.assertEqual(levels_to(FIVE, [["a"], ["e"]]), {"b": 1, "c": 3, "d": 3})
        self.assertEqual(raised(FIVE, [["a"], ["e"]]),
                         [("a", "b", 1), ("b", "c", 4), ("c", "d", 3), ("d", "e", 3)])
        self.assertEqual(levels_to(W, (("c",),)), {"a": 2, "b": 2, "d": 2, "e": 2})
        self.assertEqual(raised(W, [["c"]]), [("a", "b", 2), ("b", "c", 2), ("c", "d", 2), ("d", "e", 2)])

    def test_nothing_and_roots_of_all_places(self):
        self.assertEqual((levels_to(NONE, []), raised(NONE, [])), ({}, []))
        self.assertEqual((levels_to(W, [list("abcde")]), raised(W, [list("abcde")])), ({}, []))
        self.assertEqual(raised(W, [["a"], ["c", "b"], ["d"], ["e"]]),
                         [("a", "b", 1), ("c", "d", 2), ("d", "e", 1)])

    def test_two_roots_that_are_tied_keep_the_height(self):
        web = Web(list("abc"), [("a", "b", -5), ("b", "c", 3), ("a", "c", 1)])
        self.assertEqual(raised(web, [["a"], ["b"]]), [("a", "b", -5), ("a", "c", 1), ("b", "c", 3)])
        self.assertEqual(levels_to(web, [["a"], ["b"]]), {"c": 1})

    def test_over_small_webs(self):
        source = random.Random(98)
        for web in small_webs(98, 200, 6, chance=0.5):
            roots = rooted(web, source)
            own = heights_of(web)
            inside = [place for root in roots for place in root]
            levels = {place: min(max(own[pair] for pair in zip(way, way[1:]))
                                 for way in ways_within(own, web.places(), place) if way[-1] in inside)
                      for place in web.places() if place not in inside}
            told = levels_to(web, [root[::-1] for root in roots[::-1]])
            self.assertEqual((told, list(told)), (levels, sorted(levels)))
            rows = [(one, other, height if {one, other} & set(inside) else
                     max(height, min(levels[one], levels[other])))
                    for one, other, height in free_ties(web, roots)]
            self.assertEqual(raised(web, roots), rows)

    def test_they_are_the_least(self):
        source = random.Random(99)
        stood = 0
        for web in small_webs(99, 1500, 5, least=0, chance=0.45):
            roots = rooted(web, source)
            inside = [place for root in roots for place in root]
            ties = free_ties(web, roots)
            if len(ties) > 5:
                continue
            told = raised(web, roots)
            self.assertTrue(leads_on(told, inside))
            stood += told != ties
            for heights in itertools.product(*[range(tie[2], 4) for tie in ties]):
                others = [(*tie[:2], height) for tie, height in zip(ties, heights)]
                if leads_on(others, inside):
                    self.assertTrue(all(least[2] <= other[2] for least, other in zip(told, others)))
        self.assertGreater(stood, 10)

    def test_where_roots_are_the_hollows_nothing_is_raised(self):
        for web in small_webs(100, 100, 6):
            pits = hollows(web)
            self.assertEqual(raised(web, pits), free_ties(web, pits))
            for place, own in levels_to(web, pits).items():
                self.assertEqual(own, floor(web, place))

    def test_wrong_things(self):
        for function in (levels_to, raised):
            for thing in odd_objects():
                if not isinstance(thing, (list, tuple)):
                    self.assertEqual(error_raised(function, W, thing), (BadRoots, 0))
                self.assertEqual(error_raised(function, W, [["a", "b"], thing]), (BadRoots, 1))
                if not isinstance(thing, Web):
                    self.assertEqual(error_raised(function, thing, 5)[0], BadWeb)
            self.assertEqual(error_raised(function, W, [["a"], ["c"], ["a", "b"]]), (BadRoots, 2))
            self.assertEqual(error_raised(function, W, [["a", "c"], 5]), (BadRoots, 0))
            self.assertEqual(error_raised(function, W, []), (NoRoot, "a"))
            self.assertEqual(error_raised(function, Web(list("zyx"), [("z", "y", 1)]), [["x"]]), (NoRoot, "y"))

    def test_two_hundred_places(self):
        places = [f"p{number}" for number in range(200)]
        source = random.Random(12)
        pairs = source.sample(list(itertools.combinations(places, 2)), 600)
        web = Web(places, [(one, other, source.randint(0, 90)) for one, other in pairs])
        roots = [part[:1] for part in parts(web)] + [parts(web)[0][5:6]]
        self.assertTrue(all(row[2] >= tie[2] for row, tie in zip(raised(web, roots), web.ties())))
        self.assertEqual(len(levels_to(web, roots)), 200 - len(roots))
        self.assertEqual(len(raised(R, [["p"]])), 5)


if __name__ == "__main__":
    unittest.main()
