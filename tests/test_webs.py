"""Points [3] and [7]: names, and webs."""

import unittest

from helpers import BARRED, NO_INTEGERS, NONE, R, W, a_function, odd_objects, raised
from partswithin.errors import BadPlaces, BadTies, NoPlace
from partswithin.webs import Web


class Webs(unittest.TestCase):

    def test_places_and_ties_are_ascending(self):
        web = Web(["c", "b10", "a", "b9"], [["c", "a", -3], ("b9", "b10", 0), ("a", "b9", 7)])
        self.assertEqual(web.places(), ["a", "b10", "b9", "c"])
        self.assertEqual(web.ties(), [("a", "b9", 7), ("a", "c", -3), ("b10", "b9", 0)])
        self.assertEqual(web.ties_of("a"), [("b9", 7), ("c", -3)])
        self.assertEqual(web.ties_of("b9"), [("a", 7), ("b10", 0)])

    def test_nothing_at_all(self):
        self.assertEqual((NONE.places(), NONE.ties()), ([], []))
        alone = Web(("a",), ())
        self.assertEqual(alone.ties_of("a"), [])

    def test_equal_are_webs_of_like_places_and_ties_alone(self):
        ties = [("b", "a", 1), ("c", "b", 2), ("c", "d", 2), ["d", "e", 1]]
        self.assertEqual(Web(tuple("edcba"), ties), W)
        self.assertFalse(Web(tuple("edcba"), ties) != W)
        for other in [Web("a b c d e f".split(), ties), Web(list("abcde"), ties[1:]), R, NONE,
                      Web(list("abcde"), ties[:3] + [("d", "e", 2)])] + odd_objects()[:-1]:
            if other is not W:
                self.assertTrue(W != other)
                self.assertFalse(W == other)

    def test_what_is_told_is_new_and_what_is_passed_is_copied(self):
        places, ties = ["a", "b"], [["a", "b", 1]]
        web = Web(places, ties)
        places.append("c")
        ties[0][2] = 5
        for told in (web.places(), web.ties(), web.ties_of("a")):
            told.clear()
        self.assertEqual((web.places(), web.ties()), (["a", "b"], [("a", "b", 1)]))
        self.assertEqual(web.ties_of("a"), [("b", 1)])

    def test_names(self):
        for name in ["a", "z", "abcdefgh", "a1234567", "z9", "tied", "lots", "ati", "tie1", "atlas"]:
            self.assertEqual(Web([name], []).places(), [name])
        for thing in ["", "A", "1a", "9", "abcdefghi", "a b", "a_b", "a-", "aB", "\u00e9", "a\u0660",
                      "a\u00b2", "a\n", " a", *BARRED]:
            self.assertEqual(raised(Web, ["ok", thing], []), (BadPlaces, 1))

    def test_bad_places(self):
        for thing in odd_objects():
            if not isinstance(thing, (list, tuple)):
                self.assertEqual(raised(Web, thing, None), (BadPlaces, 0))
            if thing not in ("a", "b", "zz"):
                self.assertEqual(raised(Web, ["q", "r", thing, thing], None), (BadPlaces, 2))
        self.assertEqual(raised(Web, ["a", "b", "a", 3], None), (BadPlaces, 2))

    def test_bad_ties(self):
        for thing in odd_objects():
            if not isinstance(thing, (list, tuple)):
                self.assertEqual(raised(Web, ["a", "b"], thing), (BadTies, 0))
            if thing != [("a", "b", 1)]:
                self.assertEqual(raised(Web, ["a", "b", "c"], [("b", "c", 2), thing]), (BadTies, 1))
        for height in NO_INTEGERS:
            self.assertEqual(raised(Web, ["a", "b"], [("a", "b", height)]), (BadTies, 0))
        for tie in [("a", "a", 1), ("a", "c", 1), ("c", "a", 1), ("a", "b"), ("a", "b", 1, 1),
                    (["a"], "b", 1), ("a", {}, 1), "ab1", ("b", "c", 1.5)]:
            self.assertEqual(raised(Web, ["a", "b", "d"], [("b", "d", 0), tie]), (BadTies, 1))
        twice = [("a", "b", 1), ("a", "c", 1), ("b", "a", 1), 3]
        self.assertEqual(raised(Web, ["a", "b", "c"], twice), (BadTies, 2))

    def test_ties_of_what_is_no_place(self):
        for thing in odd_objects():
            if thing not in ("a", "b"):
                self.assertRaises(NoPlace, W.ties_of, thing)
                try:
                    W.ties_of(thing)
                except NoPlace as error:
                    self.assertIs(error.thing, thing)
        self.assertEqual(raised(W.ties_of, a_function), (NoPlace, a_function))


if __name__ == "__main__":
    unittest.main()
