"""Point [59]: priced nests of pictures."""

import inspect
import random
import unittest
from fractions import Fraction

from helpers import M, odd_objects, raised
from nests import laminar
from partswithin.errors import BadLots, BadPicture
from partswithin.pictures import picture_web
from partswithin.priced import Priced, priced_fault
from partswithin.shades import picture_priced


def plain_rows(picture, lots):
    """The rows by the words: losses as so many times the squares from the mean, borders tie by tie."""
    shades = {f"r{row}c{column}": shade for row, shades in enumerate(picture) for column, shade in enumerate(shades)}
    rows = []
    for lot in lots + [[place] for place in shades]:
        mean = Fraction(sum(shades[place] for place in lot), len(lot))
        loss = len(lot) * sum((shades[place] - mean) ** 2 for place in lot)
        border = sum((one in lot) != (other in lot) for one, other, _ in picture_web(picture).ties())
        rows.append((sorted(lot), int(loss), border))
        assert loss.denominator == 1
    return sorted(rows)


class Shades(unittest.TestCase):

    def test_the_example(self):
        both = ["r0c1", "r0c0"]
        self.assertEqual(picture_priced([[1, 4]], [both]).rows(),
                         [(["r0c0"], 0, 1), (["r0c0", "r0c1"], 9, 0), (["r0c1"], 0, 1)])
        told = picture_priced(M, [["r0c0", "r1c0"], ["r1c1", "r1c0", "r0c0", "r0c1"]])
        self.assertEqual((told.loss(["r0c0", "r1c0"]), told.border(["r1c0", "r0c0"])), (0, 2))
        self.assertEqual((told.loss(["r0c0", "r1c0", "r0c1", "r1c1"]), told.border(["r0c0", "r1c0", "r0c1", "r1c1"])),
                         (4 * 5 - 9, 2))

    def test_no_shade_and_none_but_one(self):
        self.assertEqual(picture_priced([], []), Priced([]))
        self.assertEqual(picture_priced((), ()), Priced([]))
        self.assertEqual(picture_priced([[-7]], []).rows(), [(["r0c0"], 0, 0)])
        for thing in odd_objects():
            if isinstance(thing, (list, tuple)) and len(thing) > 0:
                self.assertEqual(raised(picture_priced, [], thing), (BadLots, 0))

    def test_over_small_pictures(self):
        source = random.Random(220)
        for _ in range(150):
            width = source.randint(1, 4)
            picture = [[source.randint(-99, 99) for _ in range(width)] for _ in range(source.randint(1, 3))]
            places = [f"r{row}c{column}" for row in range(len(picture)) for column in range(width)]
            lots = [source.sample(lot, len(lot)) for lot in laminar(source, places) if len(lot) > 1]
            told = picture_priced(picture, source.sample(lots, len(lots)))
            self.assertEqual(told.rows(), plain_rows(picture, lots))
            self.assertIsNone(priced_fault(told.rows()))
            self.assertEqual(picture_priced([tuple(row) for row in picture], [tuple(lot) for lot in lots]), told)

    def test_sixty_shades(self):
        source = random.Random(221)
        picture = [[source.choice((-99, 99)) for _ in range(10)] for _ in range(6)]
        places = [f"r{row}c{column}" for row in range(6) for column in range(10)]
        lots = [places[:many] for many in range(2, 61)]
        self.assertEqual(picture_priced(picture, lots[::-1]).rows(), plain_rows(picture, lots))

    def test_each_first_index(self):
        one, other = ["r0c0", "r1c0"], ["r0c1", "r1c1"]
        crossing = ["r0c0", "r0c1"]
        for lots, index in (([one, crossing], 1), ([one, other, crossing], 2), ([one, one[::-1]], 1), ([one, tuple(one)], 1),
                            ([["r0c0"]], 0), ([one, []], 1), ([one, ["r0c0", "r0c0"]], 1), ([one, ["r0c0", "r2c0"]], 1),
                            ([one, other, ["r0c0", "r1c0", "r0c1"]], 2), ([[], one], 0)):
            self.assertEqual(raised(picture_priced, M, lots), (BadLots, index))
        for thing in odd_objects():
            self.assertEqual(raised(picture_priced, M, [one, thing]), (BadLots, 1))
            if not isinstance(thing, (list, tuple)):
                self.assertEqual(raised(picture_priced, M, thing), (BadLots, 0))
        self.assertIsNone(raised(picture_priced, M, [one + other, one, other]))

    def test_no_pictures_come_first(self):
        for thing in odd_objects() + [[[1, 2], [3]], [[True]], [[1], "2"]]:
            if thing in ([], ()) or thing == [[0]]:
                continue
            for lots in ([], None, [["r9c9"]]):
                try:
                    picture_priced(thing, lots)
                    self.fail(thing)
                except BadPicture as error:
                    self.assertIs(error.thing, thing)
        self.assertEqual(list(inspect.signature(picture_priced).parameters), ["picture", "lots"])

    def test_nothing_is_changed(self):
        lots = [["r0c1", "r0c0"]]
        picture = [[1, 4]]
        picture_priced(picture, lots)
        self.assertEqual((picture, lots), ([[1, 4]], [["r0c1", "r0c0"]]))


if __name__ == "__main__":
    unittest.main()
