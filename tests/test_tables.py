"""Points [20] and [21]: nests and tables."""

import itertools
import random
import unittest

from helpers import NO_INTEGERS, NONE, R, W, a_function, is_tied, joined, odd_objects, raised, small_webs
from partswithin.errors import BadNest, BadTable, BadWeb
from partswithin.levels import level, lots_below
from partswithin.tables import level_nest, nest_of_table, table_of, table_ring
from partswithin.webs import Web

RNEST = [(["p", "q"], 1), (["p", "q", "r", "s", "t"], 4), (["p", "q", "t"], 3), (["r", "s"], 2)]


def plain_nest(places, rows):
    """All lots of two places at least that rows up to some level join, with the least one each."""
    least = {}
    for top in sorted({row[2] for row in rows if row[2] is not None}, reverse=True):
        pairs = [row[:2] for row in rows if row[2] is not None and row[2] <= top]
        for lot in joined(places, pairs):
            if len(lot) > 1:
                least[tuple(lot)] = top
    return sorted((list(lot), top) for lot, top in least.items())


def plain_table(web, nest):
    return [(one, other, min((top for lot, top in nest if {one, other} <= set(lot)), default=None))
            for one, other, _ in web.ties()]


def rank(number):
    return (number is None, number or 0)


def is_ring(table, ring):
    """Whether unlike places each tied to the next have a level that stands alone above all others."""
    levels = {frozenset(row[:2]): row[2] for row in table}
    steps = [frozenset(step) for step in zip(ring, ring[1:] + ring[:1])]
    if len(ring) < 3 or len(set(ring)) < len(ring) or not all(step in levels for step in steps):
        return False
    ranks = sorted(rank(levels[step]) for step in steps)
    return ranks[-1] > ranks[-2]


class Nests(unittest.TestCase):

    def test_the_example(self):
        self.assertEqual(level_nest(R), RNEST)
        self.assertEqual(level_nest(W), [(["a", "b"], 1), (["a", "b", "c", "d", "e"], 2), (["d", "e"], 1)])

    def test_edges(self):
        self.assertEqual((level_nest(NONE), level_nest(Web(["a", "b"], []))), ([], []))
        self.assertEqual(level_nest(Web(["b", "a", "z"], [("b", "a", -4)])), [(["a", "b"], -4)])

    def test_all_lots_below_heights(self):
        for web in small_webs(30, 150, 7, least=-2, most=3, chance=0.4):
            self.assertEqual(level_nest(web), plain_nest(web.places(), web.ties()))
            lots = [lot for lot, _ in level_nest(web)]
            for height in range(-3, 5):
                for lot in lots_below(web, height):
                    self.assertTrue(len(lot) == 1 or lot in lots)

    def test_its_table_tells_the_levels(self):
        for web in small_webs(31, 100, 6):
            self.assertEqual(table_of(web, level_nest(web)),
                             [(one, other, level(web, one, other)) for one, other, _ in web.ties()])

    def test_it_is_the_greatest_nowhere_above_the_heights(self):
        for web in small_webs(32, 40, 4, least=0, most=2, chance=0.8):
            great = table_of(web, level_nest(web))
            ties = web.ties()
            for levels in itertools.product(range(-1, 3), repeat=len(ties)):
                if all(own <= tie[2] for own, tie in zip(levels, ties)):
                    table = [(*tie[:2], own) for own, tie in zip(levels, ties)]
                    if nest_of_table(web, table) is not None:
                        self.assertTrue(all(row[2] <= best[2] for row, best in zip(table, great)))

    def test_wrong_nests(self):
        wrong = [[(["a"], 1), (["a"], 2)], [(["a", "b"], 1), (["b", "a"], 1)], [(["a", "b"], 1), (["b", "c"], 2)],
                 [(["a", "b"], 1), (["a"], 1)], [(["a", "b"], 1), (["b"], 2)], [(["a", "x"], 1)], [([], 1)],
                 [(["a", "a"], 1)], [("ab", 1)], [(["a"],)], [(["a"], 1, 1)], ["ab"], [(["a", "b"], 2), None],
                 [(["a", "b", "c"], 3), (["a"], 1), (["b", "c", "d"], 9)], {1: (["a"], 1)}, [(["tie"], 1)],
                 [(["a", "b", "c"], 5), (["a", "b"], 5)], [(["a", "b"], 3), (["a", "b", "c"], 2)], [([1], 1)],
                 [(["a", "b", "c", "d"], 9), (["a", "b"], 1), (["c", "d"], 1), (["b", "c"], 5)],
                 [(["a", "b"], 1), (["a", "b", "c"], 2), (["a"], 1)]]
        wrong += [[(["a"], thing)] for thing in NO_INTEGERS]
        wrong += [thing for thing in odd_objects()
                  if thing not in ([], (), [[["a"], 1]])]
        for thing in wrong:
            try:
                table_of(W, thing)
                self.fail(thing)
            except BadNest as error:
                self.assertIs(error.thing, thing)
        self.assertEqual(raised(table_of, 0, 0), (BadWeb, 0))
        self.assertEqual(raised(level_nest, None), (BadWeb, None))

    def test_right_nests_by_pairs(self):
        source = random.Random(5)
        web = Web(list("abcd"), [(one, other, 0) for one, other in itertools.combinations("abcd", 2)])
        lots = [lot for many in range(1, 5) for lot in itertools.combinations("abcd", many)]
        for _ in range(600):
            chosen = source.sample(lots, source.randint(1, 4))
            nest = [(source.sample(lot, len(lot)), source.randint(0, 3) + len(lot)) for lot in chosen]
            fits = all(not set(one) & set(other) or set(one) < set(other) and low < high
                       or set(other) < set(one) and high < low
                       for (one, low), (other, high) in itertools.combinations(nest, 2))
            if fits:
                self.assertEqual(table_of(web, nest), plain_table(web, nest))
            else:
                self.assertEqual(raised(table_of, web, nest), (BadNest, nest))


class Tables(unittest.TestCase):

    def test_the_example(self):
        self.assertIsNone(nest_of_table(R, R.ties()))
        ring = table_ring(R, R.ties())
        self.assertEqual(sorted(ring), list("pqrst"))
        self.assertTrue(is_ring(R.ties(), ring))
        self.assertIsInstance(ring, list)
        self.assertEqual(nest_of_table(R, table_of(R, RNEST)), RNEST)
        self.assertIsNone(table_ring(R, table_of(R, RNEST)))

    def test_tables_of_nests(self):
        nest = [[["b", "a"], 0], (("c", "a", "b"), 5), (["e"], 7)]
        self.assertEqual(table_of(W, nest), [("a", "b", 0), ("b", "c", 5), ("c", "d", None), ("d", "e", None)])
        self.assertEqual(table_of(W, []), [(one, other, None) for one, other, _ in W.ties()])
        self.assertEqual(nest_of_table(W, table_of(W, nest)), [(["a", "b"], 0), (["a", "b", "c"], 5)])
        self.assertEqual((table_of(NONE, []), nest_of_table(NONE, []), table_ring(NONE, ())), ([], [], None))

    def test_rows_in_whatever_order(self):
        table = [["e", "d", None], ("c", "b", 5), ("b", "a", 0), ["c", "d", None]]
        self.assertEqual(nest_of_table(W, table), [(["a", "b"], 0), (["a", "b", "c"], 5)])
        self.assertIsNone(table_ring(W, table))

    def test_just_one_of_a_nest_and_a_ring(self):
        source = random.Random(6)
        for web in small_webs(33, 80, 5, chance=0.7):
            for _ in range(12):
                table = [(one, other, source.choice([None, 0, 1, 1, 2])) for one, other, _ in web.ties()]
                nest, ring = nest_of_table(web, table), table_ring(web, table)
                self.assertNotEqual(nest is None, ring is None)
                if nest is None:
                    self.assertTrue(is_ring(table, ring))
                    self.assertTrue(all(is_tied(web, *step) for step in zip(ring, ring[1:] + ring[:1])))
                else:
                    self.assertEqual(plain_table(web, nest), table)
                    self.assertEqual(nest, plain_nest(web.places(), table))
                self.assertEqual(table_ring(web, [list(row) for row in table]), ring)

    def test_none_counts_above_all(self):
        web = Web(list("abc"), [("a", "b", 0), ("b", "c", 0), ("a", "c", 0)])
        table = [("a", "b", 10 ** 9), ("b", "c", 1), ("a", "c", None)]
        self.assertIsNone(nest_of_table(web, table))
        self.assertEqual(sorted(table_ring(web, table)), ["a", "b", "c"])
        table = [("a", "b", None), ("b", "c", 1), ("a", "c", None)]
        self.assertEqual(nest_of_table(web, table), [(["b", "c"], 1)])

    def test_wrong_tables(self):
        good = [("a", "b", 1), ("b", "c", 2), ("c", "d", None), ("d", "e", 1)]
        self.assertIsNone(raised(nest_of_table, W, good))
        wrong = [good[:3], good + good[:1], good[:3] + good[:1], good[:3] + [("a", "c", 1)],
                 good[:3] + [("d", "e")], good[:3] + [("d", "e", 1, 1)], good[:3] + ["de1"], {1: 2},
                 good + [("a", "c", 1)], good[:3] + [("b", "a", 1)], good[:3] + [(["d"], "e", 1)], None]
        wrong += [good[:3] + [("d", "e", thing)] for thing in NO_INTEGERS if thing is not None]
        wrong += odd_objects() + [[thing] for thing in odd_objects()] + [good[:3] + [a_function]]
        for thing in wrong:
            for function in (nest_of_table, table_ring):
                try:
                    function(W, thing)
                    self.fail(thing)
                except BadTable as error:
                    self.assertIs(error.thing, thing)
        self.assertEqual(raised(nest_of_table, {}, {}), (BadWeb, {}))
        self.assertEqual(raised(table_ring, {}, {}), (BadWeb, {}))

    def test_two_hundred_places(self):
        source = random.Random(7)
        places = [f"p{number}" for number in range(200)]
        pairs = source.sample(list(itertools.combinations(places, 2)), 500)
        web = Web(places, [(one, other, source.randint(-50, 50)) for one, other in pairs])
        nest = level_nest(web)
        table = table_of(web, nest)
        self.assertEqual((nest_of_table(web, table), table_ring(web, table)), (nest, None))
        self.assertTrue(is_ring(web.ties(), table_ring(web, web.ties())))


if __name__ == "__main__":
    unittest.main()
