"""Points [42] and [43]: partings by roots, their faults, and what joins when a root is let go."""

import itertools
import random
import unittest

from helpers import NONE, NO_INTEGERS, W, hangs, odd_objects, raised as error_raised, small_webs
from partswithin.errors import BadNumber, BadParting, BadRoots, BadWeb, NoRoot
from partswithin.hollows import hollows
from partswithin.levels import parts
from partswithin.raising import raised
from partswithin.ridges import by_ridges, ridge_fault
from partswithin.rooted import may_join, parting_by, roots_fault
from partswithin.webs import Web
from plain import heights_of, never_rises, partings_by_roots, rooted, sharings, ways_within

# the example of [47]
FIVE = Web(list("abcde"), [("a", "b", 1), ("b", "c", 4), ("c", "d", 2), ("d", "e", 3)])
ENDS = [["a"], ["e"]]


def plain_fault(web, roots, lots):
    """The fault of an ascending sharing, by the words of [42]."""
    for index, lot in enumerate(lots):
        if not hangs(web, lot):
            return ("apart", index)
    for index, lot in enumerate(lots):
        had = [root for root in roots if set(root) & set(lot)]
        if len(had) != 1 or not set(had[0]) <= set(lot):
            return ("roots", index)
    own = heights_of(web)
    high = {(one, other): height for low, top, height in raised(web, roots) for one, other in ((low, top), (top, low))}
    lot_of = {place: lot for lot in lots for place in lot}
    between = [(one, other) for one, other, _ in web.ties() if lot_of[one] != lot_of[other]]
    for one, other in between:
        if own[one, other] < high[one, other]:
            return ("low", one, other)
    inside = [place for root in roots for place in root]
    for one, other in between:
        for end in (one, other):
            found = {end: high[one, other]}
            for way in ways_within(high, lot_of[end], end):
                if len(way) > 1 and never_rises(high, way, high[one, other]):
                    last = high[way[-2], way[-1]]
                    found[way[-1]] = max(last, found.get(way[-1], last))
            if not set(found) & set(inside):
                return ("drop", one, other, end, found)
    return None


def cases(seed, many, places=5, **more):
    source = random.Random(seed)
    for web in small_webs(seed, many, places, **more):
        yield web, rooted(web, source)


def row_cases(seed, many):
    """Places in a row, some more ties, and two or three roots of one place."""
    source = random.Random(seed)
    for _ in range(many):
        places = list("abcdefg"[:source.randint(4, 7)])
        pairs = set(zip(places, places[1:]))
        pairs |= set(source.sample(list(itertools.combinations(places, 2)), source.randint(0, 2)))
        yield (Web(places, [(*pair, source.randint(0, 4)) for pair in sorted(pairs)]),
               [[place] for place in source.sample(places, source.randint(2, 3))])


class ByRoots(unittest.TestCase):

    def test_the_example(self):
        self.assertEqual(parting_by(FIVE, ENDS), [["a", "b"], ["c", "d", "e"]])
        self.assertEqual(roots_fault(FIVE, ENDS, [["a", "b", "c"], ["d", "e"]]), ("low", "c", "d"))
        self.assertIsNone(roots_fault(FIVE, (("e",), ("a",)), (("a", "b"), ("c", "d", "e"))))

    def test_nothing_and_one_root(self):
        self.assertEqual((parting_by(NONE, []), roots_fault(NONE, [], []), roots_fault(NONE, [], ())), ([], None, None))
        self.assertEqual(parting_by(W, [["e", "d", "c", "b", "a"]]), [list("abcde")])
        self.assertEqual(parting_by(W, [["c"]]), [list("abcde")])
        self.assertEqual(parting_by(W, [["b", "a"], ["c"], ["d", "e"]]), [["a", "b"], ["c"], ["d", "e"]])
        lone = Web(["b", "a"], [])
        self.assertEqual(parting_by(lone, [["b"], ["a"]]), [["a"], ["b"]])

    def test_each_fault_in_its_order(self):
        for thing in ([["c", "d", "e"], ["a", "b"]], [["b", "a"], ["c", "d", "e"]], [["a", "b"], ["d", "c", "e"]],
                      [["a", "b"], ["c", "d"]], [["a", "b"], ["b", "c", "d", "e"]], [["a", "b"], [], ["c", "d", "e"]],
                      [["a", "b"], ["c", "d", "e", "f"]], [["a", "b"], ["c", "d", "e"], []]):
            self.assertEqual(roots_fault(FIVE, ENDS, thing), ("form",), thing)
        self.assertEqual(roots_fault(FIVE, ENDS, [["a"], ["b", "d"], ["c"], ["e"]]), ("apart", 1))
        self.assertEqual(roots_fault(FIVE, ENDS, [["a"], ["b", "c"], ["d", "e"]]), ("roots", 1))
        self.assertEqual(roots_fault(FIVE, ENDS, [["a", "b", "c", "d", "e"]]), ("roots", 0))
        self.assertEqual(roots_fault(FIVE, [["a", "b"], ["e"]], [["a"], ["b", "c", "d", "e"]]), ("roots", 0))

    def test_a_missing_drop_tells_its_heights(self):
        # from c falls lead to a alone, and b is raised to the height at which c is left
        web = Web(list("abcd"), [("a", "c", 0), ("a", "d", 0), ("b", "c", -1), ("c", "d", 1)])
        told = roots_fault(web, [["d"], ["a"]], [["a"], ["b", "c", "d"]])
        self.assertEqual(told, ("drop", "a", "c", "c", {"b": 0, "c": 0}))
        self.assertIsNone(roots_fault(web, [["d"], ["a"]], [["a", "b", "c"], ["d"]]))

    def test_any_object(self):
        for thing in odd_objects():
            self.assertEqual(roots_fault(FIVE, ENDS, thing), ("form",), thing)

    def test_over_small_webs(self):
        stood = {}
        for web, roots in [*cases(110, 160), *cases(111, 60, 6, most=4, chance=0.4), *row_cases(115, 120)]:
            found = partings_by_roots(web, roots)
            self.assertIn(parting_by(web, [root[::-1] for root in roots]), found)
            for lots in sharings(web.places()):
                told = roots_fault(web, roots[::-1], tuple(tuple(lot) for lot in lots))
                self.assertEqual(told is None, lots in found, (web.ties(), roots, lots))
                self.assertEqual(told, plain_fault(web, roots, lots))
                if told is not None:
                    stood[told[0]] = True
                    if told[0] == "drop":
                        self.assertEqual(list(told[4]), sorted(told[4]))
        self.assertEqual(sorted(stood), ["apart", "drop", "low", "roots"])

    def test_by_the_hollows_it_is_by_ridges(self):
        for web in small_webs(112, 60, 5, chance=0.5):
            for lots in sharings(web.places()):
                self.assertEqual(roots_fault(web, hollows(web), lots) is None, ridge_fault(web, lots) is None)

    def test_wrong_things(self):
        for function in (parting_by, roots_fault, may_join):
            more = [None] * (function.__code__.co_argcount - 2)
            for thing in odd_objects():
                if not isinstance(thing, (list, tuple)):
                    self.assertEqual(error_raised(function, W, thing, *more), (BadRoots, 0))
                self.assertEqual(error_raised(function, W, [["a", "b"], thing], *more), (BadRoots, 1))
                if not isinstance(thing, Web):
                    self.assertEqual(error_raised(function, thing, 5, *more)[0], BadWeb)
            self.assertEqual(error_raised(function, W, [["a"], ["c"], ["a", "b"]], *more), (BadRoots, 2))
            self.assertEqual(error_raised(function, W, [], *more), (NoRoot, "a"))
            self.assertEqual(error_raised(function, Web(["a", "b"], []), [["a"]], *more), (NoRoot, "b"))

    def test_two_hundred_places(self):
        source = random.Random(13)
        places = [f"p{number}" for number in range(200)]
        pairs = source.sample(list(itertools.combinations(places, 2)), 600)
        web = Web(places, [(one, other, source.randint(0, 30)) for one, other in pairs])
        roots = [part[:1] for part in parts(web)]
        roots += [[place] for place in source.sample(parts(web)[0][1:], 25)]
        lots = parting_by(web, roots)
        self.assertIsNone(roots_fault(web, roots, lots))
        for index in range(len(lots)):
            self.assertNotIn(index, may_join(web, roots, lots, index))


class Joins(unittest.TestCase):

    def test_examples(self):
        lots = [["a", "b"], ["c", "d", "e"]]
        self.assertEqual((may_join(FIVE, ENDS, lots, 0), may_join(FIVE, ENDS, lots, 1)), ([1], [0]))
        three = [["a", "b"], ["c"], ["d", "e"]]
        self.assertEqual(may_join(W, [["a", "b"], ["c"], ["d", "e"]], three, 1), [0, 2])
        self.assertEqual(may_join(W, [["a", "b"], ["c"], ["d", "e"]], three, 2), [1])
        self.assertEqual(may_join(W, [["c"]], [list("abcde")], 0), [])
        self.assertEqual(may_join(Web(["b", "a"], []), [["a"], ["b"]], [["a"], ["b"]], 1), [])

    def test_over_small_webs(self):
        for web, roots in [*cases(113, 150), *row_cases(116, 60)]:
            for lots in partings_by_roots(web, roots):
                lot_of = {place: at for at, lot in enumerate(lots) for place in lot}
                for index in range(len(lots)):
                    ways = [(height, lot_of[one] + lot_of[other] - index) for one, other, height in web.ties()
                            if (lot_of[one] == index) != (lot_of[other] == index)]
                    told = sorted({near for height, near in ways if height == min(ways)[0]})
                    self.assertEqual(may_join(web, roots, lots, index), told)

    def test_what_joins_is_by_the_roots_that_are_left(self):
        for web, roots in [*cases(114, 150), *row_cases(117, 60)]:
            for lots in partings_by_roots(web, roots):
                for index, lot in enumerate(lots):
                    own = [root for root in roots if set(root) <= set(lot)][0]
                    left = [root for root in roots if root != own]
                    part = [part for part in parts(web) if lot[0] in part][0]
                    if len(own) > 1 and sorted(own) not in hollows(web) or not any(root[0] in part for root in left):
                        continue
                    for at, other in enumerate(lots):
                        if at != index:
                            new = sorted([one for one in lots if one not in (lot, other)] + [sorted(lot + other)])
                            self.assertEqual(roots_fault(web, left, new) is None,
                                             at in may_join(web, roots, lots, index))

    def test_wrong_things(self):
        lots = by_ridges(W)
        pits = hollows(W)
        for thing in odd_objects() + [lots[::-1], [["a", "b"], ["c"], ["d", "e"]]]:
            try:
                may_join(W, pits, thing, None)
                self.fail(thing)
            except BadParting as error:
                self.assertIs(error.thing, thing)
        for thing in [*NO_INTEGERS, -1, 2, 10 ** 20]:
            try:
                may_join(W, pits, lots, thing)
                self.fail(thing)
            except BadNumber as error:
                self.assertIs(error.thing, thing)
        self.assertEqual(error_raised(may_join, NONE, [], [], 0), (BadNumber, 0))


if __name__ == "__main__":
    unittest.main()
