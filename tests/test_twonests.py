"""Point [69]: two nests."""

import random
import unittest

from helpers import check_errors, odd_objects
from nests import laminar
from partswithin.errors import BadNest
from partswithin.twonests import common, crossing, whole

ONE = [(["a", "b"], 0), (["a", "b", "c"], 5)]
OTHER = [(["a", "b"], 3), (["d", "e"], 3)]
FUNCTIONS = ((common, ["one", "other"]), (whole, ["one", "other"]), (crossing, ["one", "other"]))
# lists that are no nests: lots that cross, that stand twice, levels that do not rise
NO_NESTS = [[(["a", "b"], 0), (["b", "c"], 0)], [(["a"], 0), (["a"], 1)], [(["a"], 0), (["a", "b"], 0)], [(["a"], 1), (["a", "b"], 0)],
            [(["a", "a"], 0)], [(["A"], 0)], [([], 0)], [(["a"], True)], [(["a"], 0, 0)], [["a", 0]], [(["tie"], 0)], [("a", 0)]]


def random_nest(source, places):
    """Some lots within lots, with levels, in whatever order."""
    lots = [lot for lot in laminar(source, places) if source.random() < 0.7] if places else []
    rows = [(source.sample(lot, len(lot)), len(lot) * 3 + source.randint(-1, 1)) for lot in lots]
    return source.sample(rows, len(rows))


def plain_nest(lots):
    """The nest of these sets, by the words: each with how many lie within it."""
    return sorted((sorted(lot), sum(1 for one in lots if one < lot)) for lot in lots)


class TwoNests(unittest.TestCase):

    def test_the_examples(self):
        self.assertEqual(common(ONE, OTHER), [(["a", "b"], 0)])
        self.assertEqual(whole(ONE, OTHER), [(["a", "b"], 0), (["a", "b", "c"], 1), (["d", "e"], 0)])
        self.assertIsNone(crossing(ONE, OTHER))
        self.assertEqual(crossing([(["a", "b"], 0)], [(["b", "c"], 0)]), (["a", "b"], ["b", "c"]))
        self.assertIsNone(whole([(["b", "a"], 0)], [(["c", "b"], 0)]))

    def test_nothing_and_unlike_places(self):
        self.assertEqual((common([], []), whole([], ()), crossing([], [])), ([], [], None))
        self.assertEqual((common(ONE, []), whole((), OTHER)), ([], [(["a", "b"], 0), (["d", "e"], 0)]))
        far = [(["x"], -4), (["y", "x"], 7)]
        self.assertEqual((common(far, ONE), whole(far, [])), ([], [(["x"], 0), (["x", "y"], 1)]))
        self.assertEqual(whole(far, ONE), [(["a", "b"], 0), (["a", "b", "c"], 1), (["x"], 0), (["x", "y"], 1)])

    def test_lots_of_the_same_places_in_other_orders(self):
        self.assertEqual(common([(["c", "a", "b"], 2)], [(("b", "c", "a"), 9)]), [(["a", "b", "c"], 0)])
        self.assertEqual(whole([[["c", "a"], 2]], [(("a", "c"), 9), (["a"], 1)]), [(["a"], 0), (["a", "c"], 1)])

    def test_just_one_over_small_nests(self):
        source = random.Random(270)
        crossed = 0
        for _ in range(500):
            places = list("abcdef"[:source.randint(0, 6)])
            one, other = random_nest(source, places), random_nest(source, places + ["g"] * source.randint(0, 1))
            mine, theirs = [[set(lot) for lot, _ in nest] for nest in (one, other)]
            pairs = [(sorted(lot), sorted(two)) for lot in mine for two in theirs if lot & two and lot - two and two - lot]
            told = crossing(one, other)
            crossed += told is not None
            self.assertEqual(told is None, pairs == [])
            self.assertTrue(told is None or told in pairs)
            self.assertEqual(common(one, other), plain_nest([lot for lot in mine if lot in theirs]))
            every = mine + [lot for lot in theirs if lot not in mine]
            self.assertEqual(whole(one, other), plain_nest(every) if told is None else None)
            turned = [(tuple(lot), level) for lot, level in other[::-1]]
            self.assertEqual((crossing(tuple(one), turned), whole(one, turned)), (told, whole(one, other)))
        self.assertTrue(100 < crossed < 400)

    def test_sixty_places(self):
        places = [f"p{number:02d}" for number in range(60)]
        chain = [(places[:many], many) for many in range(1, 61)]
        ones = [([place], 0) for place in places]
        self.assertEqual(whole(chain, ones)[:3], [(["p00"], 0), (["p00", "p01"], 2), (["p00", "p01", "p02"], 4)])
        self.assertEqual(common(chain, chain[::-1]), [(places[:many], many - 1) for many in range(1, 61)])
        self.assertIsNotNone(crossing(chain, [(places[many:], -many) for many in range(1, 60)]))

    def test_new_lists_and_nothing_changed(self):
        one, other = [(["b", "a"], 0)], [(["b", "c"], 0)]
        told = crossing(one, other)
        told[0].append("z")
        self.assertEqual((crossing(one, other), one, other), ((["a", "b"], ["b", "c"]), [(["b", "a"], 0)], [(["b", "c"], 0)]))

    def test_wrong_things_in_order(self):
        wrong = [thing for thing in odd_objects() + NO_NESTS if thing not in ([], ())]
        wrong = [thing for thing in wrong if thing != [[["a"], 1]]]
        check_errors(self, FUNCTIONS, {"one": ONE, "other": OTHER}, {"one": (wrong, BadNest), "other": (wrong, BadNest)})


if __name__ == "__main__":
    unittest.main()
