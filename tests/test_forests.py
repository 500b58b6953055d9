"""Points [17], [18] and [19]: roots, forests, and the least ones."""

import itertools
import random
import unittest

from helpers import NONE, R, W, a_function, hangs, height_of, joined, odd_objects, raised, small_webs, subsets
from partswithin.errors import BadForest, BadRoots, BadWeb, NoRoot
from partswithin.forests import exchange, forest_fault, is_exchange, least_forest, pieces
from partswithin.levels import parts
from partswithin.webs import Web

ENDS = [["a", "b"], ["d", "e"]]
RING = [("p", "q"), ("p", "t"), ("r", "s"), ("s", "t")]


def ties_of(web):
    return [(one, other) for one, other, _ in web.ties()]


def is_forest(web, roots, ties):
    """By the words of the point: each place is joined with just one root, in one way alone."""
    point = {place: place for place in web.places()}
    for index, root in enumerate(roots):
        point.update({place: index for place in root})
    if any(point[one] == point[other] for one, other in ties):
        return False
    lots = [[point] for point in dict.fromkeys(point.values())]
    for one, other in ties:
        first = [lot for lot in lots if point[one] in lot][0]
        second = [lot for lot in lots if point[other] in lot][0]
        if first is second:
            return False
        lots = [lot for lot in lots if lot is not first and lot is not second] + [first + second]
    return all(len([thing for thing in lot if isinstance(thing, int)]) == 1 for lot in lots)


def some_roots(web, source):
    """Roots by chance: lots that hang together, apart from one another, one at least in each part."""
    roots = []
    for part in parts(web):
        lots = [lot for lot in subsets(part, 1) if hangs(web, lot)]
        source.shuffle(lots)
        chosen = []
        for lot in lots[:source.randint(1, 6)]:
            if not any(place in other for other in chosen for place in lot):
                chosen.append(source.sample(lot, len(lot)))
        roots += chosen
    return source.sample(roots, len(roots))


def small_cases(seed, many):
    source = random.Random(seed)
    for web in small_webs(seed, many, 5, chance=0.6):
        if len(web.ties()) <= 7:
            yield web, some_roots(web, source), source


class Roots(unittest.TestCase):

    def test_wrong_roots(self):
        web = Web(list("abcde"), [("a", "b", 1), ("b", "c", 1), ("d", "e", 1)])
        for thing in odd_objects():
            for function in (least_forest, lambda web, roots: forest_fault(web, roots, []),
                             lambda web, roots: pieces(web, roots, None),
                             lambda web, roots: exchange(web, roots, None),
                             lambda web, roots: is_exchange(web, roots, None, None)):
                if not isinstance(thing, (list, tuple)):
                    self.assertEqual(raised(function, web, thing), (BadRoots, 0))
                if thing not in (["a"], ("a",)):
                    self.assertEqual(raised(function, web, [["e"], ["b", "c"], thing]), (BadRoots, 2))
        for roots, index in [([["d"], ["a", "c"]], 1), ([["a", "b"], ["b", "c"]], 1), ([["a"], ["a"]], 1),
                             ([["a", "a"]], 0), ([[]], 0), (["a"], 0), ([["a"], ["d"], ["x"]], 2),
                             ([["a"], ["b", "d"]], 1), ([["a"], "b"], 1), ([[["a"]]], 0)]:
            self.assertEqual(raised(least_forest, web, roots), (BadRoots, index))
        for roots, place in [([], "a"), ([["c", "b"]], "d"), ([("e",)], "a"), ((), "a")]:
            self.assertEqual(raised(least_forest, web, roots), (NoRoot, place))
        self.assertEqual(raised(least_forest, Web(["b", "a"], []), [["a"]]), (NoRoot, "b"))
        self.assertEqual(raised(least_forest, [], 1), (BadWeb, []))

    def test_nothing(self):
        self.assertEqual(least_forest(NONE, []), [])
        self.assertEqual((pieces(NONE, [], []), exchange(NONE, (), ())), ([], None))
        self.assertEqual(least_forest(Web(["a", "b"], []), [["b"], ["a"]]), [])
        self.assertEqual(least_forest(W, [list("ecbda")]), [])


class Faults(unittest.TestCase):

    def test_each_fault(self):
        for thing, fault in [
                ([("b", "c")], None), ([["c", "b"]], None), ((("d", "c"),), None), ([], ("lone", "c")),
                ([("a", "b")], ("tie", 0)), ([("b", "c"), ("e", "d")], ("tie", 1)), ([("b", "d")], ("tie", 0)),
                ([("b", "c"), ("c", "b")], ("tie", 1)), ([("b", "c"), ("c", "d")], ("ring", 1)),
                ([("b", "c"), ("c", "d"), ("x", "y")], ("tie", 2)), ({}, ("form",)), ("bc", ("form",)),
                ([("b", "c", 2)], ("tie", 0)), (["bc"], ("tie", 0)), ([("b", "b")], ("tie", 0))]:
            self.assertEqual(forest_fault(W, ENDS, thing), fault, thing)
        self.assertEqual(forest_fault(R, [["p"]], [("p", "q"), ("r", "s")]), ("lone", "r"))
        self.assertEqual(forest_fault(R, [["p"]], RING + [("q", "r")]), ("ring", 4))
        self.assertEqual(forest_fault(R, [["q", "p"], ["t"]], [("r", "s"), ("p", "t"), ("q", "r")]), ("ring", 1))
        self.assertEqual(forest_fault(W, [["c"], ["a"]], [("a", "b"), ("b", "c")]), ("ring", 1))

    def test_any_object(self):
        for thing in odd_objects():
            fault = ("tie", 0)
            if not isinstance(thing, (list, tuple)):
                fault = ("form",)
            elif len(thing) == 0:
                fault = ("lone", "c")
            self.assertEqual(forest_fault(W, ENDS, thing), fault)
            self.assertEqual(forest_fault(W, ENDS, [("b", "c"), thing]), ("tie", 1))
            for function in (pieces, exchange, lambda *things: is_exchange(*things, None)):
                try:
                    function(W, ENDS, thing)
                    self.fail(thing)
                except BadForest as error:
                    self.assertIs(error.thing, thing)
            self.assertFalse(is_exchange(R, [["p"]], RING, thing))
            self.assertFalse(is_exchange(R, [["p"]], RING, (("q", "r"), thing)))
            self.assertFalse(is_exchange(R, [["p"]], RING, (thing, ("s", "t"))))

    def test_faults_by_the_words(self):
        for web, roots, source in small_cases(20, 120):
            for ties in subsets(ties_of(web)):
                ties = source.sample(ties, len(ties))
                told = [pair[::source.choice((1, -1))] for pair in ties]
                fault = forest_fault(web, roots, told)
                self.assertEqual(fault is None, is_forest(web, roots, ties), (web.ties(), roots, told))
                if fault is not None and fault[0] == "ring":
                    point = [place for root in roots for place in root]
                    ahead = joined(web.places(), [(point[0], place) for place in point] + ties[:fault[1]])
                    self.assertTrue(any(set(ties[fault[1]]) <= set(lot) for lot in ahead))
                elif fault is not None and fault[0] == "lone":
                    inner = [(root[0], place) for root in roots for place in root]
                    rooted = {place for root in roots for place in root}
                    lone = [lot for lot in joined(web.places(), inner + ties) if not rooted & set(lot)]
                    self.assertEqual(fault[1], min(place for lot in lone for place in lot))


class Least(unittest.TestCase):

    def test_the_examples(self):
        self.assertIn(least_forest(W, ENDS), ([("b", "c")], [("c", "d")]))
        for forest in ([("b", "c")], [("d", "c")]):
            self.assertIsNone(exchange(W, ENDS, forest))
        self.assertEqual(pieces(W, ENDS, [("c", "b")]), [["a", "b", "c"], ["d", "e"]])
        self.assertEqual(exchange(R, [["p"]], RING), (("q", "r"), ("s", "t")))
        self.assertEqual(least_forest(R, [["p"]]), [("p", "q"), ("p", "t"), ("q", "r"), ("r", "s")])
        self.assertEqual(pieces(R, [["p"]], RING), [["p", "q", "r", "s", "t"]])

    def test_which_pairs_are_exchanges(self):
        self.assertTrue(is_exchange(R, [["p"]], RING, [["r", "q"], ("t", "s")]))
        for thing in [(("q", "r"), ("r", "s")), (("s", "t"), ("q", "r")), (("q", "r"), ("p", "q")),
                      (("q", "r"),), (("q", "r"), ("s", "t"), 1), (("q", "r", 4), ("s", "t", 5)),
                      (("q", "s"), ("s", "t")), None, {}, "qr", (("q", "r"), ("q", "r"))]:
            self.assertFalse(is_exchange(R, [["p"]], RING, thing))
        # a tie between two roots has no circuit, even where all else is higher
        web = Web(list("abc"), [("a", "b", 0), ("b", "c", 5), ("a", "c", 6)])
        self.assertFalse(is_exchange(web, [["a"], ["b"]], [("b", "c")], (("a", "b"), ("b", "c"))))
        self.assertIsNone(exchange(web, [["a"], ["b"]], [("b", "c")]))
        self.assertEqual(exchange(web, [["a"], ["b"]], [("a", "c")]), (("b", "c"), ("a", "c")))

    def test_over_small_webs(self):
        for web, roots, _ in small_cases(21, 100):
            forests = [ties for ties in subsets(ties_of(web)) if is_forest(web, roots, ties)]
            sums = [sum(height_of(web, *tie) for tie in ties) for ties in forests]
            least = least_forest(web, roots)
            self.assertIn(least, forests)
            self.assertEqual(sum(height_of(web, *tie) for tie in least), min(sums))
            for ties, heights in zip(forests, sums):
                inner = [(root[0], place) for root in roots for place in root]
                self.assertEqual(pieces(web, roots, ties), joined(web.places(), inner + ties))
                pair = exchange(web, roots, ties)
                self.assertEqual(pair is None, heights == min(sums))
                self.assertEqual(pair, exchange(web, roots, ties))
                for come, gone in itertools.product(ties_of(web), ties_of(web)):
                    other = sorted([tie for tie in ties if tie != gone] + [come])
                    can = (come not in ties and gone in ties and other in forests
                           and height_of(web, *gone) > height_of(web, *come))
                    self.assertEqual(is_exchange(web, roots, ties, (come, gone)), can)
                if pair is not None:
                    self.assertTrue(is_exchange(web, roots, ties, pair))

    def test_two_hundred_places(self):
        source = random.Random(3)
        places = [f"p{number}" for number in range(200)]
        pairs = source.sample(list(itertools.combinations(places, 2)), 500)
        web = Web(places, [(one, other, source.randint(-99, 99)) for one, other in pairs])
        roots = [part[:1] for part in parts(web)]
        least = least_forest(web, roots)
        self.assertIsNone(forest_fault(web, roots, least))
        self.assertIsNone(exchange(web, roots, least))
        self.assertEqual(pieces(web, roots, least), parts(web))
        other = Web(places, [(one, other, -height) for one, other, height in web.ties()])
        self.assertTrue(is_exchange(other, roots, least, exchange(other, roots, least)))


if __name__ == "__main__":
    unittest.main()
