"""Points [29] and [31] to [33]: partings by ridges, and what shows that a parting is one, or none."""

import random
import unittest

from helpers import NONE, R, W, hangs, odd_objects, raised, small_webs
from partswithin.drops import drop
from partswithin.errors import BadParting, BadWeb
from partswithin.forests import exchange, forest_fault, pieces
from partswithin.hollows import floor, hollows
from partswithin.kinds import tie_kind
from partswithin.ridges import by_ridges, drop_fault, forest_of, ridge_fault
from partswithin.stuck import stuck
from partswithin.webs import Web
from plain import forests, partings_by_ridges, reached, sharings, webs_with_hollows

# the example of [40]
SLOPE = Web(list("pqrswxy"), [("p", "q", 0), ("r", "s", 0), ("r", "w", 1), ("x", "y", 2), ("w", "y", 2),
                              ("p", "x", 5)])
APART = Web(list("abcdz"), [("a", "b", -2), ("b", "c", 0), ("c", "d", -2)])


def is_parting(web, lots):
    """By the words of [31], of a sharing."""
    return all(hangs(web, lot) and [pit for pit in hollows(web) if set(pit) & set(lot)] == had
               and len(had) == 1 and set(had[0]) <= set(lot)
               for lot in lots for had in [[pit for pit in hollows(web) if set(pit) <= set(lot)]])


def plain_fault(web, lots):
    """The fault of a sharing, by the words of [31]."""
    for index, lot in enumerate(lots):
        if not hangs(web, lot):
            return ("apart", index)
    for index, lot in enumerate(lots):
        if not is_parting(web, [lot]):
            return ("hollows", index)
    for place in web.places():
        lot = [lot for lot in lots if place in lot][0]
        whole = [pit for pit in hollows(web) if set(pit) <= set(lot)]
        found = reached(web, place, lot)
        if not any(set(pit) <= set(found) for pit in whole):
            return ("fall", place, sorted(found))
    return None


def plain_drop_fault(web, lots):
    for one, other, height in web.ties():
        mine, theirs = [[lot for lot in lots if place in lot][0] for place in (one, other)]
        if mine != theirs:
            for end, lot in ((one, mine), (other, theirs)):
                if drop(web, lot, end, height) is None:
                    return ((one, other), end)
    return None


def mixed(lots, source):
    """The same lots in another order, some of them tuples."""
    rows = [source.choice((list, tuple))(source.sample(lot, len(lot))) for lot in lots]
    return source.choice((list, tuple))(source.sample(rows, len(rows)))


class Ridges(unittest.TestCase):

    def test_the_examples(self):
        self.assertIsNone(ridge_fault(W, [["a", "b", "c"], ["d", "e"]]))
        self.assertIsNone(ridge_fault(W, (("e", "c", "d"), ("b", "a"))))
        self.assertIn(by_ridges(W), ([["a", "b"], ["c", "d", "e"]], [["a", "b", "c"], ["d", "e"]]))
        self.assertEqual(by_ridges(R), [["p", "q", "t"], ["r", "s"]])
        self.assertEqual(ridge_fault(SLOPE, [["p", "q", "x", "y"], ["r", "s", "w"]]), ("fall", "x", ["x", "y"]))

    def test_nothing_and_places_without_ties(self):
        self.assertEqual((by_ridges(NONE), ridge_fault(NONE, []), ridge_fault(NONE, ())), ([], None, None))
        self.assertEqual(ridge_fault(NONE, [[]]), ("form",))
        lone = Web(["b", "a"], [])
        self.assertEqual(by_ridges(lone), [["a"], ["b"]])
        self.assertEqual(ridge_fault(lone, [["a", "b"]]), ("apart", 0))
        self.assertEqual(by_ridges(APART)[-1], ["z"])

    def test_each_fault_in_its_order(self):
        self.assertEqual(ridge_fault(W, [["a", "b"], ["c", "d"]]), ("form",))
        self.assertEqual(ridge_fault(W, [["a", "b"], ["b", "c", "d", "e"]]), ("form",))
        self.assertEqual(ridge_fault(W, [["a", "b"], ["c", "d", "e"], []]), ("form",))
        self.assertEqual(ridge_fault(W, [["a"], ["b", "d"], ["c", "e"]]), ("apart", 1))
        self.assertEqual(ridge_fault(W, [["a"], ["b", "c"], ["d", "e"]]), ("hollows", 0))
        self.assertEqual(ridge_fault(W, [["a", "b"], ["c"], ["d", "e"]]), ("hollows", 1))
        self.assertEqual(ridge_fault(W, [["a", "b", "c", "d", "e"]]), ("hollows", 0))
        self.assertEqual(ridge_fault(W, [["a", "b", "c", "d"], ["e"]]), ("hollows", 0))

    def test_any_object(self):
        for thing in odd_objects() + [[["a", "b", "c"], ["d", "e", 1]], [["a", "b", "c"], ["d", "e"], None],
                                      [["a", "b", "c"], "de"], {"a": 1}, ["abc", "de"]]:
            self.assertEqual(ridge_fault(W, thing), ("form",), thing)

    def test_over_small_webs(self):
        source = random.Random(70)
        for web in webs_with_hollows(small_webs(70, 400, 6, chance=0.4))[:40] + small_webs(71, 30, 4):
            found = partings_by_ridges(web)
            self.assertIn(by_ridges(web), found)
            for lots in sharings(web.places()):
                self.assertEqual(ridge_fault(web, lots) is None, lots in found)
                told = mixed(lots, source)
                self.assertEqual(ridge_fault(web, told), plain_fault(web, told))
                if ridge_fault(web, lots) is not None and ridge_fault(web, lots)[0] == "fall":
                    _, place, stopped = ridge_fault(web, lots)
                    self.assertEqual(stopped, stuck(web, [lot for lot in lots if place in lot][0], place))

    def test_heights_told_anew_in_the_same_order(self):
        for web in small_webs(72, 40, 6, chance=0.4):
            other = Web(web.places(), [(one, two, height * 1000 - 7) for one, two, height in web.ties()])
            self.assertEqual(by_ridges(web), by_ridges(other))
            self.assertEqual(partings_by_ridges(web), partings_by_ridges(other))
            for one, two, _ in web.ties():
                self.assertEqual(tie_kind(web, one, two), tie_kind(other, one, two))

    def test_all_heights_one_and_all_unlike(self):
        flat = Web(list("abcde"), [("a", "b", 7), ("b", "c", 7), ("d", "e", 7)])
        self.assertEqual(by_ridges(flat), [["a", "b", "c"], ["d", "e"]])
        for web in small_webs(73, 60, 6):
            unlike = Web(web.places(), [(*tie[:2], at) for at, tie in enumerate(web.ties())])
            self.assertEqual(partings_by_ridges(unlike), [by_ridges(unlike)])

    def test_plateaus(self):
        web = Web(list("abcdefg"), [("a", "b", 0), ("f", "g", 0), ("b", "c", 2), ("c", "d", 2), ("d", "e", 2),
                                    ("e", "f", 2)])
        self.assertEqual(ridge_fault(web, [["a", "b", "d"], ["c", "e", "f", "g"]]), ("apart", 0))
        self.assertIsNone(ridge_fault(web, [["a", "b", "c", "d", "e"], ["f", "g"]]))
        more = Web(web.places(), web.ties() + [("a", "d", 3)])
        self.assertEqual(ridge_fault(more, [["a", "b", "d"], ["c", "e", "f", "g"]]), ("apart", 1))
        self.assertEqual(ridge_fault(more, [["a", "b", "d", "e"], ["c", "f", "g"]]), ("apart", 1))
        self.assertEqual(ridge_fault(more, [["a", "b", "d"], ["f", "c", "e", "g"]]), ("apart", 1))
        closed = Web(web.places(), web.ties() + [("a", "d", 3), ("c", "f", 3)])
        self.assertEqual(ridge_fault(closed, [["a", "b", "d", "e"], ["c", "f", "g"]]), ("fall", "c", ["c"]))


class Shown(unittest.TestCase):

    def test_the_example(self):
        self.assertEqual(drop_fault(SLOPE, [["p", "q", "x", "y"], ["r", "s", "w"]]), (("w", "y"), "y"))
        self.assertIsNone(forest_of(SLOPE, [["p", "q", "x", "y"], ["r", "s", "w"]]))
        self.assertEqual(forest_of(W, [["a", "b", "c"], ["d", "e"]]), [("b", "c")])
        self.assertEqual(forest_of(W, (("b", "a"), ("e", "d", "c"))), [("c", "d")])
        self.assertEqual((drop_fault(NONE, []), forest_of(NONE, [])), (None, []))

    def test_over_small_webs(self):
        source = random.Random(74)
        for web in webs_with_hollows(small_webs(74, 400, 6, chance=0.4))[:45] + small_webs(75, 25, 4):
            for lots in sharings(web.places()):
                told = mixed(lots, source)
                if not is_parting(web, lots):
                    self.assertEqual(raised(drop_fault, web, told), (BadParting, told))
                    self.assertEqual(raised(forest_of, web, told), (BadParting, told))
                    continue
                self.assertEqual(drop_fault(web, told), plain_drop_fault(web, lots))
                right = ridge_fault(web, lots) is None
                self.assertEqual(drop_fault(web, lots) is None, right)
                self.check_forest(web, lots, forest_of(web, told), right)

    def check_forest(self, web, lots, forest, right):
        if not right:
            self.assertIsNone(forest)
            return
        pits = hollows(web)
        self.assertEqual((forest_fault(web, pits, forest), exchange(web, pits, forest)), (None, None))
        self.assertEqual((pieces(web, pits, forest), sorted(forest)), (lots, forest))
        own = {(one, other): height for one, other, height in web.ties()}
        inside = [place for pit in pits for place in pit]
        self.assertEqual(sum(own[tie] for tie in forest),
                         sum(floor(web, place) for place in web.places() if place not in inside))

    def test_the_first_end_of_a_tie_where_both_lack_a_drop(self):
        web = Web(list("abcdef"), [("a", "b", 5), ("a", "c", 7), ("a", "e", 3), ("b", "c", 3), ("b", "e", 7),
                                   ("c", "d", 0), ("e", "f", 0)])
        self.assertEqual(drop_fault(web, [["b", "e", "f"], ["a", "c", "d"]]), (("a", "b"), "a"))

    def test_pieces_of_least_forests_are_by_ridges(self):
        for web in webs_with_hollows(small_webs(76, 200, 5))[:30]:
            own = {(one, other): height for one, other, height in web.ties()}
            pits = hollows(web)
            found = [(sum(own[tie] for tie in forest), forest) for forest, _ in forests(web, pits)]
            for total, forest in found:
                if total == min(found)[0]:
                    self.assertIsNone(ridge_fault(web, pieces(web, pits, forest)))

    def test_wrong_things(self):
        for function in (drop_fault, forest_of):
            for thing in odd_objects() + [[["a", "b"], ["c", "d"]], [["a", "b"], ["c"], ["d", "e"]]]:
                try:
                    function(W, thing)
                    self.fail(thing)
                except BadParting as error:
                    self.assertIs(error.thing, thing)
        for thing in odd_objects():
            if not isinstance(thing, Web):
                for function in (by_ridges, ridge_fault, drop_fault, forest_of):
                    things = [thing] * function.__code__.co_argcount
                    self.assertEqual(raised(function, *things)[0], BadWeb)

    def test_two_hundred_places(self):
        places = [f"p{number}" for number in range(200)]
        source = random.Random(8)
        pairs = list(zip(places, places[1:])) + [tuple(source.sample(places, 2)) for _ in range(500)]
        ties = {tuple(sorted(pair)): source.randint(0, 6) for pair in pairs}
        web = Web(places, [(*pair, height) for pair, height in ties.items()])
        lots = by_ridges(web)
        self.assertGreater(len(lots), 5)
        self.assertEqual((ridge_fault(web, lots), drop_fault(web, lots)), (None, None))
        self.assertEqual(pieces(web, hollows(web), forest_of(web, lots)), lots)


if __name__ == "__main__":
    unittest.main()
