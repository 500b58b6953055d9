"""Point [38]: steps from one parting by ridges to another one."""

import itertools
import random
import unittest

from helpers import NONE, W, hangs, odd_objects, raised, small_webs
from partswithin.errors import BadParting, BadWeb
from partswithin.firsts import first_parting
from partswithin.hollows import hollows
from partswithin.ridges import by_ridges
from partswithin.steps import is_led, led
from partswithin.webs import Web
from plain import partings_by_ridges, webs_with_hollows

LEFT = [["a", "b", "c"], ["d", "e"]]
RIGHT = [["a", "b"], ["c", "d", "e"]]
# c and d fall to both hollows and to one another, each
TWO = Web(list("abcdefgh"), [("a", "b", 0), ("c", "d", 0), ("e", "a", 2), ("e", "c", 2), ("f", "a", 3),
                             ("f", "c", 3), ("g", "e", 4), ("h", "f", 5)])


def is_step(web, ahead, behind):
    """Whether a lot of places goes out of one lot into another one, by the words of [38]."""
    gone = [lot for lot in ahead if lot not in behind]
    come = [lot for lot in behind if lot not in ahead]
    if len(gone) != 2 or len(come) != 2:
        return False
    for one, other in itertools.permutations(gone):
        for first, second in itertools.permutations(come):
            moved = sorted(set(one) - set(first))
            if moved and sorted(set(one) - set(moved)) == first and sorted(other + moved) == second:
                if hangs(web, moved):
                    return True
    return False


class Led(unittest.TestCase):

    def test_examples(self):
        self.assertEqual(led(W, LEFT, RIGHT), [LEFT, RIGHT])
        self.assertEqual(led(W, (("e", "d"), ("c", "b", "a")), LEFT), [LEFT])
        self.assertEqual(led(NONE, [], []), [[]])
        self.assertTrue(is_led(NONE, [], [], [[]]))
        self.assertFalse(is_led(NONE, [], [], []))
        self.assertFalse(is_led(NONE, [], [], [[], []]))

    def test_however_long(self):
        self.assertTrue(is_led(W, LEFT, RIGHT, [LEFT, RIGHT] * 150))
        self.assertFalse(is_led(W, LEFT, RIGHT, [LEFT, RIGHT] * 150 + [RIGHT]))
        self.assertTrue(is_led(W, LEFT, LEFT, [LEFT, RIGHT] * 150 + [(("c", "b", "a"), ("e", "d"))]))
        self.assertFalse(is_led(W, LEFT, LEFT, [LEFT, RIGHT]))
        self.assertFalse(is_led(W, LEFT, LEFT, [RIGHT, LEFT]))

    def test_places_that_go_hang_together(self):
        lots = sorted([["a", "b", "e", "f", "g", "h"], ["c", "d"]])
        other = sorted([["a", "b"], ["c", "d", "e", "f", "g", "h"]])
        self.assertFalse(is_led(TWO, lots, other, [lots, other]))
        between = sorted([["a", "b", "e", "g"], ["c", "d", "f", "h"]])
        self.assertTrue(is_led(TWO, lots, other, [lots, between, other]))
        tied = Web(TWO.places(), TWO.ties() + [("g", "h", 9)])
        self.assertTrue(is_led(tied, lots, other, [lots, other]))

    def test_places_that_go_come_into_one_lot(self):
        web = Web(list("abcdefuv"), [("a", "b", 0), ("c", "d", 0), ("e", "f", 0), ("a", "u", 2), ("c", "u", 2),
                                     ("a", "v", 2), ("e", "v", 2), ("u", "v", 3)])
        lots = [["a", "b", "u", "v"], ["c", "d"], ["e", "f"]]
        other = [["a", "b"], ["c", "d", "u"], ["e", "f", "v"]]
        self.assertFalse(is_led(web, lots, other, [lots, other]))
        self.assertFalse(is_led(web, other, lots, [other, lots]))
        self.assertTrue(is_led(web, lots, other, led(web, lots, other)))

    def test_over_small_webs(self):
        source = random.Random(92)
        for web in webs_with_hollows(small_webs(92, 400, 7, chance=0.4, most=1))[:40] + [TWO]:
            found = partings_by_ridges(web)
            for one, other in itertools.product(source.sample(found, min(8, len(found))), repeat=2):
                rows = led(web, one[::-1], other)
                self.assertEqual((rows[0], rows[-1]), (one, other))
                self.assertTrue(all(lots in found for lots in rows))
                self.assertTrue(all(is_step(web, *pair) for pair in zip(rows, rows[1:])))
                self.assertTrue(is_led(web, one, other, tuple(rows)))
                if one == other:
                    self.assertEqual(rows, [one])

    def test_which_lists_lead(self):
        for web in webs_with_hollows(small_webs(93, 400, 6, chance=0.4, most=1))[:25] + [TWO]:
            found = partings_by_ridges(web)[:7]
            for one, other in itertools.product(found, repeat=2):
                self.assertEqual(is_led(web, one, other, [one, other]), is_step(web, one, other))
                for middle in found:
                    self.assertEqual(is_led(web, one, other, [one, middle, other]),
                                     is_step(web, one, middle) and is_step(web, middle, other))

    def test_any_object(self):
        for thing in odd_objects() + [[LEFT, None, RIGHT], [LEFT, [["a", "b"], ["c"], ["d", "e"]], RIGHT],
                                      [LEFT, RIGHT, 1], LEFT, {"a": LEFT}]:
            self.assertIs(is_led(W, LEFT, RIGHT, thing), False, thing)

    def test_wrong_things(self):
        wrong = odd_objects() + [[["a", "b"], ["c", "d"]], [["a", "b"], ["c"], ["d", "e"]]]
        for function in (led, is_led):
            more = [None] * (function.__code__.co_argcount - 3)
            for thing in wrong:
                if not isinstance(thing, Web):
                    self.assertEqual(raised(function, thing, None, None, *more)[0], BadWeb)
                for things in ((thing, None), (LEFT, thing)):
                    try:
                        function(W, *things, *more)
                        self.fail(thing)
                    except BadParting as error:
                        self.assertIs(error.thing, thing)

    def test_partings_that_are_not_by_ridges(self):
        web = Web(list("abcdef"), [("a", "b", 0), ("b", "c", 3), ("c", "d", 1), ("d", "e", 0), ("c", "f", 2)])
        lots = [["a", "b", "c", "f"], ["d", "e"]]
        right = [["a", "b"], ["c", "d", "e", "f"]]
        self.assertEqual(raised(led, web, lots, right), (BadParting, lots))
        self.assertEqual(raised(led, web, right, lots), (BadParting, lots))
        self.assertFalse(is_led(web, right, right, [right, lots, right]))

    def test_two_hundred_places(self):
        places = [f"p{number}" for number in range(200)]
        source = random.Random(11)
        pairs = source.sample(list(itertools.combinations(places, 2)), 600)
        web = Web(places, [(one, other, source.randint(0, 3)) for one, other in pairs])
        one, other = by_ridges(web), first_parting(web, hollows(web)[::-1])
        rows = led(web, one, other)
        self.assertGreater(len(rows), 2)
        self.assertTrue(is_led(web, one, other, rows))


if __name__ == "__main__":
    unittest.main()
