"""Point [4]: the errors."""

import unittest

from partswithin import errors

KEPT = """BadDeed(thing) BadForest(thing) BadForm(thing) BadHeight(thing) BadHollow(thing)
BadKind(thing) BadLosses(fault) BadLot(index) BadLots(index) BadName(thing) BadNest(thing)
BadNumber(thing) BadOrder(index) BadParting(thing) BadPicture(thing) BadPlaces(index)
BadPrice(thing) BadPriced(thing) BadQuestion(thing) BadRoots(index) BadRows(index)
BadSession(thing) BadSharing(thing) BadTable(thing) BadText(line,sign) BadTies(index)
BadTold(index) BadWeb(thing) InUse(question) IsThere(lot) IsWatched(question) NoCount(thing)
NoLot(thing) NoParts(lot) NoPlace(thing) NoRoot(place) NoTie(one,other) NotThere(lot)
NotWatched(question) OtherPlaces() SamePlace(thing) SavesNothing(lot)
WouldChange(question,why)""".split()


class Errors(unittest.TestCase):

    def test_each_is_right_beneath_the_one(self):
        self.assertEqual(errors.PartsError.__bases__, (ValueError,))
        for kept in KEPT:
            name = kept.split("(")[0]
            with self.subTest(name):
                self.assertEqual(getattr(errors, name).__bases__, (errors.PartsError,))

    def test_each_is_a_class_of_its_own(self):
        classes = [getattr(errors, kept.split("(")[0]) for kept in KEPT]
        self.assertEqual(len(set(classes)), len(KEPT))

    def test_the_one_can_be_made(self):
        with self.assertRaises(ValueError):
            raise errors.PartsError()

    def test_each_keeps_the_very_objects(self):
        for kept in KEPT:
            name, names = kept[:-1].split("(")
            names = [word for word in names.split(",") if word]
            things = [[object()] for _ in names]
            with self.subTest(name):
                error = getattr(errors, name)(*things)
                for word, thing in zip(names, things):
                    self.assertIs(getattr(error, word), thing)
                error = getattr(errors, name)(**dict(zip(names, things)))
                for word, thing in zip(names, things):
                    self.assertIs(getattr(error, word), thing)


if __name__ == "__main__":
    unittest.main()
