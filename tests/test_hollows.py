"""Points [23], [24] and [29]: floors, falls, hollows, and what changed heights leave."""

import random
import unittest

from helpers import NONE, R, W, hangs, joined, odd_objects, raised, small_webs, subsets
from partswithin.errors import BadWeb, NoPlace
from partswithin.hollows import fall_down, falls, floor, hollow_of, hollows, is_hollow
from partswithin.webs import Web
from partswithin.whose import hollows_under, shared_places

# a plateau from which a fall leads on, one that is a hollow, and a place alone
PLATEAU = Web(list("abcdefgz"), [("a", "b", -1), ("b", "c", -1), ("c", "d", -3), ("d", "e", -2),
                                 ("e", "f", 0), ("f", "g", 0), ("a", "g", 0)])


def plain_floor(web, place):
    return min([tie[2] for tie in web.ties() if place in tie[:2]], default=None)


def is_plain_hollow(web, lot):
    """By the words of the point."""
    if len(lot) == 1:
        return plain_floor(web, lot[0]) is None
    height = plain_floor(web, lot[0])
    level = [(one, other) for one, other, own in web.ties() if own == height]
    inner = [tie for tie in level if set(tie) <= set(lot)]
    leave = [tie for tie in level if len(set(tie) & set(lot)) == 1]
    return all(plain_floor(web, place) == height for place in lot) and not leave and len(joined(lot, inner)) == 1


def is_row_of_falls(web, row):
    steps = list(zip(row, row[1:]))
    ties = {(one, other): own for low, high, own in web.ties() for one, other in ((low, high), (high, low))}
    return (isinstance(row, list) and len(row) > 0 and len(set(row)) == len(row)
            and all(ties.get(step) is not None and ties[step] == plain_floor(web, step[0]) for step in steps))


class Falls(unittest.TestCase):

    def test_floors(self):
        self.assertEqual([floor(W, place) for place in "abcde"], [1, 1, 2, 1, 1])
        self.assertEqual([floor(PLATEAU, place) for place in "acdfz"], [-1, -3, -3, 0, None])

    def test_falls(self):
        self.assertEqual([falls(W, place) for place in "abcde"], [["b"], ["a"], ["b", "d"], ["e"], ["d"]])
        self.assertEqual(falls(R, "t"), ["p"])
        self.assertEqual(falls(PLATEAU, "z"), [])

    def test_by_the_words(self):
        for web in small_webs(40, 100, 6):
            for place in web.places():
                self.assertEqual(floor(web, place), plain_floor(web, place))
                near = {end for tie in web.ties() if place in tie[:2] and tie[2] == floor(web, place)
                        for end in tie[:2]}
                self.assertEqual(falls(web, place), sorted(near - {place}))


class Hollows(unittest.TestCase):

    def test_the_examples(self):
        self.assertEqual(hollows(W), [["a", "b"], ["d", "e"]])
        self.assertEqual(hollows(R), [["p", "q"], ["r", "s"]])
        self.assertEqual(hollows(PLATEAU), [["c", "d"], ["z"]])
        self.assertEqual([hollow_of(W, place) for place in "abcde"],
                         [["a", "b"], ["a", "b"], None, ["d", "e"], ["d", "e"]])
        self.assertEqual((hollow_of(PLATEAU, "z"), hollow_of(PLATEAU, "a")), (["z"], None))
        self.assertEqual(hollows(NONE), [])
        self.assertEqual(hollows(Web(list("ba"), [])), [["a"], ["b"]])

    def test_all_of_one_height_below_0(self):
        web = Web(list("abcd"), [("a", "b", -2), ("b", "c", -2), ("c", "d", -2)])
        self.assertEqual(hollows(web), [["a", "b", "c", "d"]])

    def test_by_the_words(self):
        for web in small_webs(41, 120, 6):
            found = [lot for lot in subsets(web.places(), 1) if is_plain_hollow(web, lot)]
            self.assertEqual(hollows(web), sorted(found))
            for place in web.places():
                own = [lot for lot in found if place in lot]
                self.assertLessEqual(len(own), 1)
                self.assertEqual(hollow_of(web, place), own[0] if own else None)
            for lot in subsets(web.places()):
                self.assertEqual(is_hollow(web, lot[::-1]), lot in found)
                self.assertFalse(is_hollow(web, lot + lot[:1]))
            for lot in found:
                self.assertTrue(all(near in lot for place in lot for near in falls(web, place)))

    def test_any_object(self):
        for thing in odd_objects():
            self.assertFalse(is_hollow(W, thing))
            self.assertIs(is_hollow(Web(["a"], []), thing), thing in (["a"], ("a",)))
            if not isinstance(thing, Web):
                for function in (hollows, lambda web: is_hollow(web, []), lambda web: hollow_of(web, 1)):
                    self.assertEqual(raised(function, thing)[0], BadWeb)
            if thing not in ("a", "b"):
                for function in (floor, falls, hollow_of, fall_down):
                    self.assertEqual(raised(function, W, thing)[0], NoPlace)
        for thing in (["b", "a"], ("a", "b"), ["d", "e"]):
            self.assertIs(is_hollow(W, thing), True)
        for thing in (["a"], ["a", "b", "c"], ["a", "b", "a"], ["a", "d"], ["c"], "ab", [["a", "b"]]):
            self.assertIs(is_hollow(W, thing), False)

    def test_just_one_of_a_hollow_and_a_fall_down(self):
        self.assertEqual(fall_down(PLATEAU, "a"), ["a", "b", "c"])
        self.assertEqual(fall_down(PLATEAU, "c"), None)
        self.assertEqual(fall_down(PLATEAU, "g"), ["g", "a"])
        self.assertIsNone(fall_down(PLATEAU, "z"))
        for web in small_webs(42, 150, 7, chance=0.5):
            for place in web.places():
                row = fall_down(web, place)
                self.assertNotEqual(row is None, hollow_of(web, place) is None)
                if row is not None:
                    self.assertTrue(is_row_of_falls(web, row))
                    self.assertEqual(row[0], place)
                    self.assertLess(floor(web, row[-1]), floor(web, place))
                    self.assertEqual(fall_down(web, place), row)


class ChangedHeights(unittest.TestCase):

    def test_told_anew_in_the_same_order(self):
        source = random.Random(8)
        for web in small_webs(43, 60, 6):
            anew = dict(zip(range(-1, 3), sorted(source.sample(range(-50, 50), 4))))
            other = Web(web.places(), [(*tie[:2], anew[tie[2]]) for tie in web.ties()])
            self.assertEqual(hollows(other), hollows(web))
            for place in web.places():
                self.assertEqual(falls(other, place), falls(web, place))

    def test_one_height(self):
        source = random.Random(9)
        for web in small_webs(44, 100, 6):
            if web.ties():
                ties = web.ties()
                at = source.randrange(len(ties))
                ties[at] = (*ties[at][:2], source.randint(-3, 4))
                ahead, behind = hollows(web), hollows(Web(web.places(), ties))
                for lot in ahead:
                    self.assertTrue(lot in behind or set(lot) & set(ties[at][:2]))
                self.assertLessEqual(len([lot for lot in ahead if lot not in behind]), 2)
                self.assertLessEqual(len([lot for lot in behind if lot not in ahead]), 2)

    def test_one_height_for_all_and_all_unlike(self):
        for web in small_webs(45, 60, 6):
            like = Web(web.places(), [(*tie[:2], 7) for tie in web.ties()])
            lots = joined(web.places(), [tie[:2] for tie in web.ties()])
            self.assertEqual(hollows(like), lots)
            self.assertTrue(all(hangs(web, lot) for lot in lots))
            heights = random.Random(len(lots)).sample(range(99), len(web.ties()))
            unlike = Web(web.places(), [(*tie[:2], own) for tie, own in zip(web.ties(), heights)])
            self.assertEqual(shared_places(unlike), [])
            for lot in hollows(unlike):
                self.assertTrue(len(lot) == 2 or unlike.ties_of(lot[0]) == [])
            self.assertTrue(all(len(hollows_under(unlike, place)) == 1 for place in unlike.places()))


if __name__ == "__main__":
    unittest.main()
