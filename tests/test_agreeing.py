"""Points [70] and [71]: marks for a parting, and where they agree with prices."""

import itertools
import random
import unittest

import nests
from helpers import R, V, W, check_errors, hangs, odd_objects, raised, small_webs
from partswithin.agreeing import agreeing, is_no_marks, marks_for, no_marks
from partswithin.errors import BadPriced, BadSharing, BadWeb, OtherPlaces
from partswithin.hollows import hollows
from partswithin.levels import parts
from partswithin.priced import Priced
from partswithin.rooted import roots_fault
from partswithin.stretches import price_row
from partswithin.webs import Web
from plain import heights_of, partings_by_roots, sharings, ways_within, webs_with_hollows

FUNCTIONS = ((marks_for, ["web", "sharing"]), (no_marks, ["web", "sharing"]), (is_no_marks, ["web", "sharing", "thing"]))
NONE = Web([], [])
APART = [["p", "q"], ["r", "s", "t"]]


def whole_in(web, lot):
    return [hollow for hollow in hollows(web) if set(hollow) <= set(lot)]


def all_marks(web, lots, known):
    """All choices of a hollow in each lot by which the lots are the pieces of a least forest.

    known keeps the partings by roots that were listed already.
    """
    found = []
    for choice in itertools.product(*[whole_in(web, lot) for lot in lots]):
        roots = sorted(choice)
        if str(roots) not in known:
            fits = all(any(set(root) <= set(part) for root in roots) for part in parts(web))
            known[str(roots)] = partings_by_roots(web, roots) if fits else []
        if lots in known[str(roots)]:
            found.append(roots)
    return found


def low_ties(web, lot, hollow):
    """All ties out of a lot that are lower than a tie of each way within it to the hollow."""
    own = heights_of(web)
    found = []
    for place in lot:
        ways = [way for way in ways_within(own, lot, place) if way[-1] in hollow]
        tops = [max([own[pair] for pair in zip(way, way[1:])], default=-10 ** 9) for way in ways]
        found += [(place, near) for near, height in web.ties_of(place) if near not in lot and all(height < top for top in tops)]
    return sorted(found)


class Marks(unittest.TestCase):

    def test_the_examples(self):
        self.assertEqual(marks_for(W, [["e", "c", "d"], ("b", "a")]), [["a", "b"], ["d", "e"]])
        self.assertIsNone(no_marks(W, [["a", "b"], ["c", "d", "e"]]))
        self.assertIsNone(marks_for(R, APART))
        self.assertEqual(no_marks(R, APART[::-1]), ("low", ["r", "s", "t"], [(["r", "s"], ("t", "p"))]))
        self.assertIs(is_no_marks(R, APART, ["low", ("t", "s", "r"), [[("s", "r"), ["t", "p"]]]]), True)

    def test_no_place_places_alone_and_plateaus(self):
        self.assertEqual((marks_for(NONE, []), no_marks(NONE, ()), is_no_marks(NONE, [], None)), ([], None, False))
        alone = Web(["b", "a"], [])
        self.assertEqual(marks_for(alone, [["b"], ["a"]]), [["a"], ["b"]])
        self.assertEqual(no_marks(alone, [["b", "a"]]), ("apart", ["a", "b"]))
        # b and c fall to one another and out of it on both sides, all over 1
        flat = Web(list("abcd"), [("a", "b", 1), ("b", "c", 1), ("c", "d", 1)])
        self.assertEqual((marks_for(flat, [list("dcba")]), no_marks(flat, [["a", "b"], ["c", "d"]])),
                         ([list("abcd")], ("none", ["a", "b"])))

    def test_apart_comes_before_none_and_none_before_low(self):
        web = Web(list("abcdef"), [("a", "b", 1), ("b", "c", 2), ("c", "d", 3), ("d", "e", 2), ("e", "f", 1)])
        self.assertEqual(no_marks(web, [["a", "b"], ["c"], ["d", "f"], ["e"]]), ("apart", ["d", "f"]))
        self.assertEqual(no_marks(web, [["a", "b", "c"], ["d"], ["e", "f"]]), ("none", ["d"]))
        self.assertEqual(no_marks(web, [list("ab"), list("cdef")]), ("low", list("cdef"), [(["e", "f"], ("c", "b"))]))
        for thing, lots, right in ((("none", ["c"]), [["a", "b"], ["c"], ["d", "f"], ["e"]], True), (("none", ["e"]), [["c"], ["a", "b"], ["f", "d"],
                                                                                                                     ["e"]], True),
                                   (("apart", ["f", "d"]), [["a", "b"], ["c"], ["d", "f"], ["e"]], True),
                                   (("none", ["d", "f"]), [["a", "b"], ["c"], ["d", "f"], ["e"]], True),
                                   (("apart", ["e"]), [["a", "b"], ["c"], ["d", "f"], ["e"]], False),
                                   (("none", ["a", "b"]), [["a", "b"], ["c"], ["d", "f"], ["e"]], False)):
            self.assertIs(is_no_marks(web, lots, thing), right)
        lots = [["a", "b"], ["c"], ["d", "f"], ["e"]]
        for thing in (("apart", ["d", "f"], []), ("none", ["c"], []), ("low", ["d", "f"]), ("low", ["c"]), ("low", ["c"], [])):
            self.assertIs(is_no_marks(web, lots, thing), False)
        # another lot is low, but one has no hollow
        self.assertIs(is_no_marks(web, [["a", "b"], list("cef"), ["d"]], ("low", ["c", "e", "f"], [])), False)
        ring = Web(list("abcdef"), [("a", "b", 1), ("c", "d", 1), ("b", "c", 9), ("a", "e", 2), ("e", "f", 2), ("f", "c", 9)])
        low = ("low", ["c", "d", "f"], [(["c", "d"], ("f", "e"))])
        self.assertEqual(no_marks(ring, [["c", "d", "f"], ["a", "b", "e"]]), low)
        self.assertEqual(no_marks(ring, [["c", "d", "f"], ["a", "b"], ["e"]]), ("none", ["e"]))
        self.assertIs(is_no_marks(ring, [["c", "d", "f"], ["a", "b", "e"]], low), True)
        self.assertIs(is_no_marks(ring, [["c", "d", "f"], ["a", "b"], ["e"]], low), False)

    def test_just_one_over_small_webs(self):
        source = random.Random(280)
        seen = {None: 0, "apart": 0, "none": 0, "low": 0}
        webs = webs_with_hollows(small_webs(281, 400, 6, most=4, chance=0.4))[:100] + small_webs(280, 40, 4)
        for web in webs:
            known = {}
            every = sharings(web.places())
            # those that have no fault but a low tie, and some others
            near = [lots for lots in every if all(hangs(web, lot) and whole_in(web, lot) for lot in lots)]
            for lots in source.sample(every, min(len(every), 20)) + near[:40] + [parts(web)]:
                marks, none = marks_for(web, lots[::-1]), no_marks(web, lots)
                seen[none and none[0]] += 1
                self.assertNotEqual(marks is None, none is None)
                right = all_marks(web, lots, known) if all(hangs(web, lot) for lot in lots) else []
                self.assertEqual(marks is None, right == [])
                if marks is not None:
                    self.assertIn(marks, right)
                    self.assertIsNone(roots_fault(web, marks, lots))
                self.check_none(web, lots, none)
        self.assertGreater(min(seen.values()), 20)

    def check_none(self, web, lots, none):
        apart = [lot for lot in lots if not hangs(web, lot)]
        bare = [lot for lot in lots if whole_in(web, lot) == []]
        rows = {str(lot): [(hollow, low_ties(web, lot, hollow)) for hollow in whole_in(web, lot)] for lot in lots}
        low = [lot for lot in lots if not apart and not bare and all(ties for _, ties in rows[str(lot)])]
        if apart or bare:
            self.assertEqual(none, ("apart", apart[0]) if apart else ("none", bare[0]))
        elif low:
            self.assertEqual(none[:2], ("low", low[0]))
            self.assertEqual([hollow for hollow, _ in none[2]], whole_in(web, low[0]))
            for (_, ties), (_, tie) in zip(rows[str(low[0])], none[2]):
                self.assertIn(tie, ties)
        self.assertIs(is_no_marks(web, lots, none), none is not None)
        for lot in lots:
            turned = tuple(lot[::-1])
            self.assertIs(is_no_marks(web, lots, ("apart", turned)), lot in apart)
            self.assertIs(is_no_marks(web, lots[::-1], ["none", turned]), lot in bare)
            for tie in [(one, other) for one, other, _ in web.ties()] + [(other, one) for one, other, _ in web.ties()]:
                told = [(hollow[::-1], tie if at == 0 else (ties or [("a", "b")])[0])
                        for at, (hollow, ties) in enumerate(rows[str(lot)])]
                right = lot in low and tie in rows[str(lot)][0][1]
                self.assertIs(is_no_marks(web, lots, ("low", turned, told)), right)

    def test_any_object(self):
        rows = [(["r", "s"], ("t", "p"))]
        lot = ["r", "s", "t"]
        wrong = [("low", lot), ("low", lot, rows, 1), ("low", lot, rows + rows), ("low", lot, []), ("low", ["p", "q"], rows),
                 ("low", lot, [(["r", "s"], ("p", "t"))]), ("low", lot, [(["r", "s"], ("r", "q"))]), ("low", lot, [(["r"], ("t", "p"))]),
                 ("apart", lot), ("none", lot), (["low"], lot, rows), ("low", ["r", "s"], rows), ("low", lot, [(["r", "s"], "tp")]),
                 ("low", lot, [(["p", "q"], ("t", "p"))]), ("apart", lot, rows), ("none",), ("low", ["r", "s", "t", "t"], rows),
                 ("low", lot, [(["r", "s"], ("t", "p"), 1)]), ("low", lot, [(["r", "s"], ("t", "q"))]), None,
                 ("apart", ["p", "r"]), ("none", ["t"]), ("none", ["p"]), ("low", ["t"], []), ("low", ["r", "s"], [(["r", "s"], ("s", "t"))])]
        for thing in odd_objects() + wrong:
            self.assertIs(is_no_marks(R, APART, thing), False, thing)
            for told in (("low", thing, rows), ("low", lot, thing), ("low", lot, [thing]), ("low", lot, [(thing, ("t", "p"))]),
                         ("low", lot, [(["r", "s"], thing)]), ("low", lot, [(["r", "s"], (thing, "p"))]), (thing, lot, rows),
                         ("low", lot, [(["r", "s"], ("t", thing))]), ("apart", thing), ("none", thing), (thing, lot)):
                self.assertIs(is_no_marks(R, APART, told), False, told)

    def test_rows_stand_ascending(self):
        # two hollows within, one without, to which low ties lead from both
        web = Web(list("abcdefgh"), [("a", "b", 1), ("c", "d", 1), ("b", "e", 5), ("d", "e", 5), ("e", "f", 3), ("f", "g", 1)])
        lots = [list("abcde"), ["f", "g"], ["h"]]
        told = no_marks(web, lots)
        self.assertEqual(told, ("low", list("abcde"), [(["a", "b"], ("e", "f")), (["c", "d"], ("e", "f"))]))
        self.assertIs(is_no_marks(web, lots, told), True)
        self.assertIs(is_no_marks(web, lots, (told[0], told[1], told[2][::-1])), False)

    def test_wrong_things_in_order(self):
        wrong = [thing for thing in odd_objects() if thing != []] + [[["a", "b"]], [["a", "b"], ["c", "d", "e"], []], [["a"]] * 5,
                                                                    [list("abcde"), ["a"]], [list("abcdef")], list("abcde")]
        right = {"web": W, "sharing": [["a", "b"], ["c", "d", "e"]], "thing": None}
        webs = [thing for thing in odd_objects() if not isinstance(thing, Web)]
        check_errors(self, FUNCTIONS, right, {"web": (webs, BadWeb), "sharing": (wrong + [[], ()], BadSharing)})


class Agreeing(unittest.TestCase):

    def test_over_w(self):
        rows = [([place], 0, 2) for place in "abcde"]
        rows += [(["a", "b"], 1, 3), (["d", "e"], 1, 3), (["c", "d", "e"], 7, 2), (list("abcde"), 20, 0)]
        priced = Priced(rows)
        self.assertEqual(price_row(priced), [((0, 1), [["a"], ["b"], ["c"], ["d"], ["e"]]), ((1, 1), [["a", "b"], ["c"], ["d", "e"]]),
                                             ((2, 1), [["a", "b"], ["c", "d", "e"]]), ((12, 5), [list("abcde")])])
        self.assertEqual(agreeing(W, priced), [((2, 1), [["a", "b"], ["d", "e"]]), ((12, 5), [["a", "b"]])])

    def test_marks_are_ascending(self):
        # the lot of a has its hollow behind that of the other one
        web = Web(list("abcxy"), [("x", "y", 0), ("b", "c", 0), ("a", "x", 1), ("a", "b", 2)])
        lots = [["a", "x", "y"], ["b", "c"]]
        self.assertEqual(marks_for(web, lots), [["b", "c"], ["x", "y"]])
        rows = [([place], 0, 1) for place in "abcxy"] + [(lot, 0, 1) for lot in lots]
        self.assertEqual(agreeing(web, Priced(rows)), [((0, 1), [["b", "c"], ["x", "y"]])])

    def test_a_mark_at_several_prices_is_told_anew(self):
        web = Web(list("abcd"), [("a", "b", 0), ("c", "d", 0), ("b", "c", 1)])
        rows = [([place], 0, 1) for place in "abcd"] + [(["a", "b"], 0, 1), (["c", "d"], 0, 1), (list("abcd"), 3, 0)]
        told = agreeing(web, Priced(rows))
        self.assertEqual(told, [((0, 1), [["a", "b"], ["c", "d"]]), ((3, 2), [["a", "b"]])])
        told[0][1][0].clear()
        self.assertEqual(told[1], ((3, 2), [["a", "b"]]))

    def test_no_place_and_all_in_one(self):
        self.assertEqual(agreeing(NONE, Priced([])), [((0, 1), [])])
        self.assertEqual(agreeing(Web(["a"], []), Priced([(["a"], 0, 0)])), [((0, 1), [["a"]])])

    def test_over_small_webs(self):
        source = random.Random(282)
        agreed = 0
        for web in small_webs(283, 60, 6, chance=0.5):
            for _ in range(3):
                priced = Priced(nests.priced_rows(source, web.places()))
                right = [(price, marks_for(web, lots)) for price, lots in price_row(priced)
                         if no_marks(web, lots) is None]
                self.assertEqual(agreeing(web, priced), right)
                agreed += len(right)
            self.assertEqual(no_marks(web, parts(web)), None)
            for choice in itertools.product(*[whole_in(web, part) for part in parts(web)]):
                self.assertIsNone(roots_fault(web, list(choice), parts(web)))
        self.assertGreater(agreed, 40)

    def test_sixty_places_and_thirty_hollows(self):
        places = [f"p{number:03d}" for number in range(60)]
        ties = [(one, other, 1 if at % 2 == 0 else 5 + at % 7) for at, (one, other) in enumerate(zip(places, places[1:]))]
        web = Web(places, ties)
        self.assertEqual(len(hollows(web)), 30)
        for rows in (nests.chain(60), nests.halves(60)):
            told = agreeing(web, Priced(rows))
            self.assertEqual(told, agreeing(web, Priced(rows[::-1])))
            self.assertEqual(told[-1][1], [["p000", "p001"]])

    def test_told_lists_are_new(self):
        told = agreeing(W, Priced([([place], 0, 1) for place in "abcde"] + [(list("abcde"), 0, 5)]))
        self.assertEqual(told, [((0, 1), [["a", "b"]])])
        told[0][1][0].append("z")
        self.assertEqual(marks_for(W, [list("abcde")]), [["a", "b"]])

    def test_wrong_things_in_order(self):
        webs = [thing for thing in odd_objects() if not isinstance(thing, Web)]
        check_errors(self, ((agreeing, ["web", "priced"]),), {"web": W, "priced": None},
                     {"web": (webs + [Priced(V)], BadWeb), "priced": (odd_objects() + [W, V], BadPriced)})
        for web in (W, NONE, R, Web(list("abc"), [])):
            self.assertEqual(raised(agreeing, web, Priced(V)), (OtherPlaces,))


if __name__ == "__main__":
    unittest.main()
