"""Points [15] and [16]: lots below heights, and levels."""

import itertools
import unittest

from helpers import NO_INTEGERS, NONE, R, W, height_of, is_tied, joined, raised, small_webs
from partswithin.errors import BadHeight, BadWeb, NoPlace, SamePlace
from partswithin.levels import level, level_lot, level_way, lots_below, parts
from partswithin.webs import Web

APART = Web(list("abcdz"), [("d", "b", -5), ("a", "c", 3)])


def plain_below(web, height):
    return joined(web.places(), [(one, other) for one, other, own in web.ties() if own <= height])


def is_way(web, row, one, other, height):
    steps = list(zip(row, row[1:]))
    return (row[0] == one and row[-1] == other and len(set(row)) == len(row)
            and all(is_tied(web, *step) and height_of(web, *step) <= height for step in steps))


class Below(unittest.TestCase):

    def test_the_example(self):
        self.assertEqual(lots_below(W, 1), [["a", "b"], ["c"], ["d", "e"]])
        self.assertEqual(lots_below(W, 0), [["a"], ["b"], ["c"], ["d"], ["e"]])
        self.assertEqual(lots_below(W, 2), [["a", "b", "c", "d", "e"]])

    def test_apart(self):
        self.assertEqual(lots_below(APART, -5), [["a"], ["b", "d"], ["c"], ["z"]])
        self.assertEqual(lots_below(APART, -6), [["a"], ["b"], ["c"], ["d"], ["z"]])
        self.assertEqual(parts(APART), [["a", "c"], ["b", "d"], ["z"]])
        self.assertEqual(parts(W), [["a", "b", "c", "d", "e"]])
        self.assertEqual((lots_below(NONE, 3), parts(NONE)), ([], []))

    def test_by_plain_joining(self):
        for web in small_webs(10, 150, 7, chance=0.35):
            for height in range(-2, 4):
                self.assertEqual(lots_below(web, height), plain_below(web, height))
            self.assertEqual(parts(web), plain_below(web, 10))

    def test_wrong_things(self):
        for thing in NO_INTEGERS:
            self.assertEqual(raised(lots_below, W, thing), (BadHeight, thing))
            self.assertEqual(raised(level_way, W, "a", "b", thing), (BadHeight, thing))
            self.assertEqual(raised(level_lot, W, "a", "b", thing), (BadHeight, thing))
        self.assertEqual(raised(lots_below, None, None), (BadWeb, None))
        self.assertEqual(raised(parts, "web"), (BadWeb, "web"))
        for function, more in ((level, []), (level_way, [None]), (level_lot, [None])):
            self.assertEqual(raised(function, 3, 3, 3, *more), (BadWeb, 3))
            self.assertEqual(raised(function, W, "x", "y", *more), (NoPlace, "x"))
            self.assertEqual(raised(function, W, "a", "y", *more), (NoPlace, "y"))
            self.assertEqual(raised(function, W, "a", "a", *more), (SamePlace, "a"))


class Levels(unittest.TestCase):

    def test_the_example(self):
        self.assertEqual(level(W, "a", "e"), 2)
        self.assertEqual(level_way(W, "a", "e", 2), ["a", "b", "c", "d", "e"])
        self.assertEqual(level_lot(W, "a", "e", 1), ["a", "b"])
        self.assertIsNone(level_way(W, "a", "e", 1))
        self.assertIsNone(level_lot(W, "a", "e", 2))
        self.assertEqual([level(R, "t", "s"), level(R, "p", "r"), level(R, "q", "t")], [4, 4, 3])

    def test_apart(self):
        self.assertIsNone(level(APART, "a", "b"))
        self.assertIsNone(level_way(APART, "z", "b", 99))
        self.assertEqual(level_lot(APART, "z", "b", 99), ["z"])
        self.assertEqual(level(APART, "b", "d"), -5)

    def test_just_one_of_a_way_and_a_lot(self):
        for web in small_webs(11, 120, 6, chance=0.4):
            for one, other in itertools.permutations(web.places(), 2):
                least = [height for height in range(-2, 4)
                         if any(one in lot and other in lot for lot in plain_below(web, height))]
                self.assertEqual(level(web, one, other), min(least, default=None))
                for height in range(-2, 4):
                    way, lot = level_way(web, one, other, height), level_lot(web, one, other, height)
                    self.assertNotEqual(way is None, lot is None)
                    if way is None:
                        own = [lot for lot in plain_below(web, height) if one in lot]
                        self.assertEqual([lot], own)
                        self.assertNotIn(other, lot)
                    else:
                        self.assertIsInstance(way, list)
                        self.assertTrue(is_way(web, way, one, other, height))
                        self.assertEqual(way, level_way(web, one, other, height))

    def test_of_three_levels_the_greatest_stands_twice(self):
        for web in small_webs(12, 60, 6, chance=0.5):
            for one, other, third in itertools.combinations(web.places(), 3):
                told = [level(web, one, other), level(web, one, third), level(web, other, third)]
                ranks = sorted((height is None, height or 0) for height in told)
                self.assertEqual(ranks[1], ranks[2])

    def test_two_hundred_places(self):
        places = [f"p{number}" for number in range(200)]
        web = Web(places, [(f"p{number}", f"p{number + 1}", number) for number in range(199)])
        self.assertEqual(level(web, "p0", "p199"), 198)
        self.assertEqual(level_way(web, "p199", "p0", 198), places[::-1])
        self.assertEqual(len(level_lot(web, "p199", "p0", 197)), 1)
        self.assertEqual(len(lots_below(web, 99)), 100)


if __name__ == "__main__":
    unittest.main()
