"""Points [45] and [46]: water that rises, the lakes that meet, and the numbers of those that end."""

import itertools
import random
import unittest

from helpers import NONE, NO_INTEGERS, R, W, joined, odd_objects, raised, small_webs
from partswithin.errors import BadHeight, BadHollow, BadKind, BadWeb
from partswithin.hollows import floor, hollows
from partswithin.levels import level
from partswithin.orders import nest_by_order, order_fault
from partswithin.water import ends_at, lake_of, order_by
from partswithin.webs import Web
from plain import webs_with_hollows
from test_rooted import FIVE

KINDS = ("depth", "size", "held")


def some_webs():
    source = random.Random(130)
    rows = []
    for _ in range(120):
        places = list("abcdefghij"[:source.randint(4, 10)])
        pairs = set(zip(places, places[1:]))
        pairs |= set(source.sample(list(itertools.combinations(places, 2)), source.randint(0, 2)))
        rows.append(Web(places, [(*pair, source.randint(-2, 4)) for pair in pairs]))
    return rows + webs_with_hollows(small_webs(131, 300, 7, chance=0.35)) + small_webs(132, 60, 6)


def below(web, height):
    return joined(web.places(), [tie[:2] for tie in web.ties() if tie[2] < height])


def plain_number(web, kind, height, pit, lake):
    return {"depth": height - (floor(web, pit[0]) or 0), "size": len(lake),
            "held": sum(height - floor(web, place) for place in lake)}[kind]


def plain_ends(web, kind):
    """By the words of [45]: the water rises one by one."""
    heights = [tie[2] for tie in web.ties()] or [0]
    left = hollows(web)
    ends = []
    for height in range(min(heights), max(heights) + 1):
        lakes = [(pit, lot) for lot in below(web, height) for pit in left
                 if pit[0] in lot and floor(web, pit[0]) is not None and floor(web, pit[0]) < height]
        assert len({tuple(lot) for _, lot in lakes}) == len(lakes)
        for lot in below(web, height + 1):
            met = [(-plain_number(web, kind, height, pit, lake), pit) for pit, lake in lakes if pit[0] in lot]
            for less, pit in sorted(met)[1:]:
                ends.append((pit, -less))
                left.remove(pit)
    return sorted(ends, key=lambda row: row[0]) + [(pit, None) for pit in left]


class Lakes(unittest.TestCase):

    def test_the_example(self):
        self.assertEqual(lake_of(FIVE, ["b", "a"], 4), ["a", "b"])
        self.assertEqual(lake_of(FIVE, ("c", "d"), 4), ["c", "d", "e"])
        self.assertEqual(lake_of(FIVE, ("c", "d"), 3), ["c", "d"])
        self.assertIsNone(lake_of(FIVE, ["c", "d"], 2))
        self.assertEqual(lake_of(FIVE, ["a", "b"], 5), list("abcde"))
        self.assertIsNone(lake_of(FIVE, ["a", "b"], 1))

    def test_a_place_without_ties_never_has_one(self):
        self.assertIsNone(lake_of(Web(["a"], []), ["a"], 10 ** 8))
        self.assertIsNone(lake_of(Web(["a"], []), ["a"], -10 ** 8))

    def test_over_small_webs(self):
        for web in some_webs():
            for pit in hollows(web):
                for height in range(-3, 6):
                    lot = [lot for lot in below(web, height) if pit[0] in lot][0]
                    least = floor(web, pit[0])
                    told = lake_of(web, pit[::-1], height)
                    self.assertEqual(told, None if least is None or least >= height else lot)

    def test_wrong_things(self):
        for thing in odd_objects() + [["a"], ["c"], ["a", "b", "c"]]:
            if not isinstance(thing, Web):
                self.assertEqual(raised(lake_of, thing, None, None)[0], BadWeb)
            try:
                lake_of(W, thing, None)
                self.fail(thing)
            except BadHollow as error:
                self.assertIs(error.thing, thing)
        for thing in NO_INTEGERS:
            try:
                lake_of(W, ["a", "b"], thing)
                self.fail(thing)
            except BadHeight as error:
                self.assertIs(error.thing, thing)


class Ends(unittest.TestCase):

    def test_the_example(self):
        self.assertEqual(ends_at(FIVE, "depth"), [(["a", "b"], None), (["c", "d"], 2)])
        self.assertEqual(ends_at(FIVE, "size"), [(["a", "b"], 2), (["c", "d"], None)])
        self.assertEqual(ends_at(FIVE, "held"), [(["a", "b"], None), (["c", "d"], 5)])
        self.assertEqual(order_by(FIVE, "size"), [["a", "b"], ["c", "d"]])
        self.assertEqual(order_by(FIVE, "held"), [["c", "d"], ["a", "b"]])
        self.assertEqual(ends_at(R, "depth"), [(["p", "q"], None), (["r", "s"], 2)])

    def test_alike_ones(self):
        for kind in KINDS:
            self.assertEqual(ends_at(W, kind), [(["a", "b"], None), (["d", "e"], {"depth": 1}.get(kind, 2))])
            self.assertEqual(order_by(W, kind), [["d", "e"], ["a", "b"]])

    def test_several_meet_at_once_also_over_places_of_no_lake(self):
        # m is tied to all three by 5 alone
        web = Web(list("abcdefm"), [("a", "b", 3), ("c", "d", 1), ("e", "f", 2), ("a", "m", 5), ("c", "m", 5),
                                    ("e", "m", 5)])
        self.assertEqual(ends_at(web, "depth"), [(["a", "b"], 2), (["c", "d"], None), (["e", "f"], 3)])
        self.assertEqual(ends_at(web, "size"), [(["a", "b"], None), (["c", "d"], 2), (["e", "f"], 2)])
        self.assertEqual(order_by(web, "size"), [["c", "d"], ["e", "f"], ["a", "b"]])
        self.assertEqual(order_by(web, "held"), [["a", "b"], ["e", "f"], ["c", "d"]])

    def test_a_hollow_as_high_as_the_water_meets_nothing(self):
        web = Web(list("abcd"), [("a", "b", 4), ("b", "c", 6), ("c", "d", 1)])
        self.assertEqual(ends_at(web, "held"), [(["a", "b"], 4), (["c", "d"], None)])

    def test_nothing_and_parts_apart(self):
        lone = Web(list("dcba"), [("a", "c", -7)])
        for kind in KINDS:
            self.assertEqual((ends_at(NONE, kind), order_by(NONE, kind)), ([], []))
            self.assertEqual(ends_at(lone, kind), [(["a", "c"], None), (["b"], None), (["d"], None)])
            self.assertEqual(order_by(lone, kind), [["a", "c"], ["b"], ["d"]])

    def test_over_small_webs(self):
        for web in some_webs():
            for kind in KINDS:
                ends = plain_ends(web, kind)
                told = ends_at(web, kind)
                self.assertEqual(told, sorted(ends, key=lambda row: row[0]))
                order = sorted(ends, key=lambda row: (row[1] is None, row[1] or 0, row[0]))
                self.assertEqual(order_by(web, kind), [pit for pit, _ in order])
                self.assertIsNone(order_fault(web, order_by(web, kind), nest_by_order(web, order_by(web, kind))))

    def test_depths_are_levels_to_deeper_ones(self):
        for web in some_webs():
            pits = hollows(web)
            for pit, number in ends_at(web, "depth"):
                own = floor(web, pit[0])
                deeper = [other for other in pits if own is not None and floor(web, other[0]) is not None
                          and (floor(web, other[0]), other) < (own, pit)]
                levels = [level(web, pit[0], other[0]) for other in deeper]
                least = min((height for height in levels if height is not None), default=None)
                self.assertEqual(number, None if least is None else least - own)

    def test_wrong_kinds(self):
        for function in (ends_at, order_by):
            for thing in odd_objects() + ["depths", "Depth", ["depth"], "held "]:
                if not isinstance(thing, Web):
                    self.assertEqual(raised(function, thing, None)[0], BadWeb)
                try:
                    function(W, thing)
                    self.fail(thing)
                except BadKind as error:
                    self.assertIs(error.thing, thing)

    def test_two_hundred_places(self):
        places = [f"p{number}" for number in range(200)]
        source = random.Random(15)
        ties = {tuple(sorted(pair)): source.randint(0, 500)
                for pair in [*zip(places, places[1:]), *[tuple(source.sample(places, 2)) for _ in range(390)]]}
        web = Web(places, [(*pair, height) for pair, height in ties.items()])
        for kind in KINDS:
            ends = ends_at(web, kind)
            self.assertEqual([pit for pit, _ in ends], hollows(web))
            self.assertEqual([number for _, number in ends].count(None), 1)
            self.assertEqual(sorted(order_by(web, kind)), hollows(web))


if __name__ == "__main__":
    unittest.main()
