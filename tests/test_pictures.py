"""Points [8] and [11]: pictures and their texts."""

import unittest

from helpers import INTEGER, M, NO_INTEGERS, NONE, can_go_on_by, first_fault, lines_of, match, mutations
from helpers import odd_objects, raised
from partswithin.errors import BadPicture, BadText
from partswithin.pictures import picture_web
from partswithin.picturetexts import picture_fault, picture_text, read_picture
from partswithin.webs import Web


def plain_read(text):
    lines = lines_of(text)
    if lines is None or not all(match(f"{INTEGER}(?: {INTEGER})*", line) == () for line in lines):
        return None
    rows = [[int(word) for word in line.split(" ")] for line in lines]
    return rows if all(len(row) == len(rows[0]) for row in rows) else None


def templates(_):
    return ["1 " * many + "1\n" for many in range(5)] + ["-1 1\n", "-1\n"]


class Pictures(unittest.TestCase):

    def test_the_example(self):
        web = picture_web(M)
        self.assertEqual(web.places(), ["r0c0", "r0c1", "r0c2", "r1c0", "r1c1", "r1c2"])
        self.assertEqual(web.ties(), [
            ("r0c0", "r0c1", 1), ("r0c0", "r1c0", 0), ("r0c1", "r0c2", 4), ("r0c1", "r1c1", 1),
            ("r0c2", "r1c2", 1), ("r1c0", "r1c1", 2), ("r1c1", "r1c2", 4)])

    def test_edges(self):
        self.assertEqual(picture_web([]), NONE)
        self.assertEqual(picture_web(([-5],)), Web(["r0c0"], []))
        self.assertEqual(picture_web([(-5, 3)]), Web(["r0c0", "r0c1"], [("r0c0", "r0c1", 8)]))
        self.assertEqual(picture_web([[3], [-5]]).ties(), [("r0c0", "r1c0", 8)])

    def test_two_hundred_shades(self):
        web = picture_web([[row * column for column in range(20)] for row in range(10)])
        self.assertEqual((len(web.places()), len(web.ties())), (200, 10 * 19 + 9 * 20))
        self.assertIn("r9c19", web.places())
        self.assertEqual(web.ties_of("r2c11"), [("r1c11", 11), ("r2c10", 2), ("r2c12", 2), ("r3c11", 11)])

    def test_what_is_no_picture(self):
        wrong = [[[]], [[1], []], [[1, 2], [3]], [[1], [2, 3]], [1], [[1], 2], "1", [["1"]], [[[1]]], {}]
        wrong += [[[1, thing]] for thing in NO_INTEGERS]
        wrong += [thing for thing in odd_objects() if thing not in ([], (), [[0]])]
        for thing in wrong:
            for function in (picture_web, picture_text):
                self.assertRaises(BadPicture, function, thing)
                try:
                    function(thing)
                except BadPicture as error:
                    self.assertIs(error.thing, thing)


class PictureTexts(unittest.TestCase):

    def test_written_and_read(self):
        self.assertEqual(picture_text(M), "0 1 5\n0 2 6\n")
        for picture in ([], [[0]], [[-1]], [[0, -12], [345, 0]], M, [[10 ** 16 - 1, 1 - 10 ** 16]]):
            self.assertEqual(read_picture(picture_text(picture)), picture)
            self.assertIsNone(picture_fault(picture_text(tuple(tuple(row) for row in picture))))
        self.assertEqual(picture_text([]), "")

    def test_the_first_wrong_sign(self):
        for text, fault in [
                ("1 2\n3\n", (2, 2)), ("1 2\n3", (2, 2)), ("1 2\n3 4 5\n", (2, 4)), ("\n", (1, 1)),
                ("1\n\n", (2, 1)), ("07\n", (1, 2)), ("-0\n", (1, 2)), ("-", (1, 2)), ("-\n", (1, 2)),
                ("1  2\n", (1, 3)), ("1 \n", (1, 3)), (" 1\n", (1, 1)), ("1", (1, 2)), ("1 2\n", None),
                ("1" * 16 + "\n", None), ("1" * 17 + "\n", (1, 17)), ("-" + "1" * 17, (1, 18)),
                ("1" * 16, (1, 17)), ("1\n2\n3", (3, 2)), ("1 2\n-3 4\n", None), ("+1\n", (1, 1)),
                ("1\r\n", (1, 2)), ("\u0661\n", (1, 1)), ("1\t2\n", (1, 2)), ("1_0\n", (1, 2))]:
            with self.subTest(text):
                self.assertEqual(picture_fault(text), fault)
                expected = None if fault is None else (BadText, *fault)
                self.assertEqual(raised(read_picture, text), expected)

    def test_by_a_plain_reader(self):
        texts = ["1 2\n3 4\n", "0\n-1\n10\n", "-12 0 7\n0 0 1\n", "1234567890123456\n5\n"]
        can_go_on = can_go_on_by(lambda text: plain_read(text) is not None, templates)
        for text in mutations(texts, "0123456789- \n\nax", 1, 600):
            fault = first_fault(can_go_on, lambda text: plain_read(text) is not None, text)
            self.assertEqual(picture_fault(text), fault, text)
            if fault is None:
                self.assertEqual(read_picture(text), plain_read(text))

    def test_any_object(self):
        for thing in odd_objects():
            if not isinstance(thing, str):
                self.assertEqual(picture_fault(thing), (0, 0))
                self.assertEqual(raised(read_picture, thing), (BadText, 0, 0))


if __name__ == "__main__":
    unittest.main()
