"""Point [39]: all partings by ridges, counted."""

import itertools
import unittest

from helpers import NONE, NO_INTEGERS, R, W, odd_objects, raised, small_webs
from partswithin.counted import count_partings, parting_at, parting_number
from partswithin.errors import BadNumber, BadParting, BadWeb
from partswithin.hollows import falls, hollows
from partswithin.webs import Web
from plain import partings_by_ridges, sharings, webs_with_hollows
from test_ridges import is_parting

# ten places: a plateau of four that falls to three hollows
TEN = Web(list("abcdefghij"), [("a", "b", 0), ("c", "d", 0), ("e", "f", 0), ("g", "h", 1), ("h", "i", 1),
                               ("i", "j", 1), ("g", "j", 1), ("a", "g", 1), ("c", "h", 1), ("e", "i", 1)])


class Counted(unittest.TestCase):

    def test_the_example(self):
        self.assertEqual(count_partings(W), 2)
        self.assertEqual(parting_at(W, 0), [["a", "b"], ["c", "d", "e"]])
        self.assertEqual(parting_at(W, 1), [["a", "b", "c"], ["d", "e"]])
        self.assertEqual(parting_number(W, (("e", "d"), ("c", "a", "b"))), 1)
        self.assertEqual((count_partings(R), parting_at(R, 0)), (1, [["p", "q", "t"], ["r", "s"]]))

    def test_nothing_and_places_without_ties(self):
        self.assertEqual((count_partings(NONE), parting_at(NONE, 0), parting_number(NONE, [])), (1, [], 0))
        lone = Web(["b", "a"], [])
        self.assertEqual((count_partings(lone), parting_at(lone, 0)), (1, [["a"], ["b"]]))

    def test_over_small_webs(self):
        webs = webs_with_hollows(small_webs(94, 600, 7, chance=0.4, most=1))[:80] + small_webs(95, 30, 5)
        for web in webs:
            found = partings_by_ridges(web)
            self.assertEqual(count_partings(web), len(found))
            self.assertEqual([parting_at(web, number) for number in range(len(found))], found)
            for number, lots in enumerate(found):
                self.assertEqual(parting_number(web, tuple(lot[::-1] for lot in lots[::-1])), number)

    def test_none_for_those_that_are_not_by_ridges(self):
        stood = 0
        for web in webs_with_hollows(small_webs(96, 700, 6, chance=0.4))[:90]:
            found = partings_by_ridges(web)
            for lots in sharings(web.places()):
                if not is_parting(web, lots):
                    self.assertEqual(raised(parting_number, web, lots), (BadParting, lots))
                elif lots not in found:
                    self.assertIsNone(parting_number(web, lots))
                    stood += 1
        self.assertGreater(stood, 5)

    def test_ten_places(self):
        found = partings_by_ridges(TEN)
        self.assertEqual(count_partings(TEN), len(found))
        self.assertEqual(parting_at(TEN, len(found) - 1), found[-1])

    def test_just_one_where_one_tie_is_least(self):
        for web in small_webs(97, 150, 6):
            inside = [place for pit in hollows(web) for place in pit]
            if all(len(falls(web, place)) == 1 for place in web.places() if place not in inside):
                self.assertEqual(count_partings(web), 1)

    def test_wrong_things(self):
        for thing in [*NO_INTEGERS, -1, 2, 10 ** 30]:
            try:
                parting_at(W, thing)
                self.fail(thing)
            except BadNumber as error:
                self.assertIs(error.thing, thing)
        for thing in odd_objects():
            if not isinstance(thing, Web):
                self.assertEqual(raised(count_partings, thing)[0], BadWeb)
                self.assertEqual(raised(parting_at, thing, None)[0], BadWeb)
                self.assertEqual(raised(parting_number, thing, None)[0], BadWeb)
            try:
                parting_number(W, thing)
                self.fail(thing)
            except BadParting as error:
                self.assertIs(error.thing, thing)


class AllOfThem(unittest.TestCase):

    def test_told_lists_are_new(self):
        for number in range(2):
            told = parting_at(W, number)
            told[0].clear()
            self.assertNotEqual(parting_at(W, number), told)

    def test_ascending(self):
        rows = [parting_at(TEN, number) for number in range(count_partings(TEN))]
        self.assertTrue(all(ahead < behind for ahead, behind in itertools.pairwise(rows)))


if __name__ == "__main__":
    unittest.main()
