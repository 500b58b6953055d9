"""Points [9] and [10]: web texts, their first wrong signs, and how they go on."""

import itertools
import unittest

from helpers import BARRED, INTEGER, NAME, NONE, R, W, can_go_on_by, first_fault, lines_of, match
from helpers import mutations, not_webs, odd_objects, raised, small_webs
from partswithin.errors import BadText, BadWeb
from partswithin.webs import Web
from partswithin.webtexts import read_web, web_fault, web_goes_on, web_text

NAME_SIGNS = "abcdefghijklmnopqrstuvwxyz0123456789"


def plain_read(text):
    lines = lines_of(text)
    if lines is None:
        return None
    places, ties = [], {}
    for line in lines:
        place, tie = match(f"place ({NAME})", line), match(f"tie ({NAME}) ({NAME}) ({INTEGER})", line)
        if place and place[0] not in BARRED + places:
            places.append(place[0])
        elif tie and tie[0] in places and tie[1] in places and tie[0] != tie[1]:
            key = tuple(sorted(tie[:2]))
            if key in ties:
                return None
            ties[key] = int(tie[2])
        else:
            return None
    return Web(places, [(one, other, height) for (one, other), height in ties.items()])


def templates(start):
    places = [line[6:] for line in start.split("\n")[:-1] if line.startswith("place ")]
    ties = [f"tie {one} {other} -15\n" for one, other in itertools.permutations(places, 2)]
    return ["place q9z\n", "place qqqqqqqq\n", *ties]


class WebTexts(unittest.TestCase):

    def test_written(self):
        self.assertEqual(web_text(W), "place a\nplace b\nplace c\nplace d\nplace e\n"
                                      "tie a b 1\ntie b c 2\ntie c d 2\ntie d e 1\n")
        self.assertEqual(web_text(Web(["b", "a"], [("b", "a", -10)])), "place a\nplace b\ntie a b -10\n")
        self.assertEqual(web_text(NONE), "")
        for thing in not_webs():
            self.assertRaises(BadWeb, web_text, thing)
            try:
                web_text(thing)
            except BadWeb as error:
                self.assertIs(error.thing, thing)

    def test_a_text_of_a_web_is_read_as_the_web(self):
        great = Web([f"r{number}" for number in range(200)],
                    [(f"r{number}", f"r{(number * 7 + 1) % 200}", number - 99) for number in range(199)
                     if (number * 49 + 8) % 200 != number and number != (number * 7 + 1) % 200])
        far = Web(["a", "b"], [("a", "b", 1 - 10 ** 16)])
        for web in [W, R, NONE, great, far] + small_webs(1, 60):
            self.assertEqual(read_web(web_text(web)), web)
            self.assertIsNone(web_fault(web_text(web)))
            self.assertEqual(web_goes_on(web_text(web)), web_text(web))

    def test_lines_in_whatever_order(self):
        text = "place e\nplace d\ntie e d 1\nplace b\nplace a\ntie b a 1\nplace c\ntie d c 2\ntie b c 2\n"
        self.assertEqual(read_web(text), W)
        self.assertEqual(web_fault("place a\ntie a b 1\nplace b\n"), (2, 1))
        self.assertEqual(web_fault("place a\nplace b\ntie a c 1\nplace c\n"), (3, 7))

    def test_the_first_wrong_sign(self):
        ab = "place a\nplace b\n"
        abc = "place a\nplace b\nplace c\n"
        for text, fault in [
                ("place a\ntie", (2, 1)), (ab + "tie a b 07", (3, 10)), ("tie", (1, 1)), ("x", (1, 1)),
                ("\n", (1, 1)), ("place a\n\n", (2, 1)), ("place a", (1, 8)), ("place ", (1, 7)),
                ("pl", (1, 3)), ("place  a\n", (1, 7)), ("place A\n", (1, 7)), ("place 1\n", (1, 7)),
                ("place a b\n", (1, 8)), ("place a \n", (1, 8)), ("place abcdefgh\n", None),
                ("place abcdefghi\n", (1, 15)), ("place a\nplace a\n", (2, 8)), ("place a\nplace a", (2, 8)),
                ("place a\nplace ab\n", None), ("place a\r\n", (1, 8)), ("place \u00e9\n", (1, 7)),
                (ab + "tie a a 1\n", (3, 7)), (ab + "tie b a 1\n", None), (ab + "tie c a 1\n", (3, 5)),
                (ab + "tie a b 1\ntie a b 1\n", (4, 1)), (ab + "tie a b 1\ntie", (4, 1)),
                (abc + "tie a b 1\ntie b a", (5, 7)), (abc + "tie a b 1\ntie a c 1\ntie a", (6, 5)),
                (abc + "tie a b 1\ntie a c 1\ntie c b 1\nt", (7, 1)), (ab + "tie a b -0\n", (3, 10)),
                (ab + "tie a b -\n", (3, 10)), (ab + "tie a b \n", (3, 9)), (ab + "tie a b +1\n", (3, 9)),
                (ab + "tie a b 1234567890123456\n", None), (ab + "tie a b 12345678901234567\n", (3, 25)),
                (ab + "tie a b -12345678901234567\n", (3, 26)), (ab + "tie a b 1 \n", (3, 10)),
                (ab + "tie a b 1", (3, 10)), (ab + "tie a b -", (3, 10)), (ab + "tie a b", (3, 8)),
                (ab + "tie  a", (3, 5)), (ab + "tie a  b", (3, 7)), ("place ab\nplace ac\ntie a 1", (3, 6)),
                ("place ab\nplace ac\ntie a", (3, 6)), ("place ab\nplace ac\ntie ab ac", (3, 10)),
                ("place ab\nplace ac\ntie ab ab", (3, 9)), ("", None)]:
            with self.subTest(text):
                self.assertEqual(web_fault(text), fault)
                expected = None if fault is None else (BadText, *fault)
                self.assertEqual(raised(read_web, text), expected)

    def test_barred_words(self):
        for word in BARRED:
            self.assertEqual(web_fault(f"place {word}\n"), (1, 7 + len(word)))
            self.assertEqual(web_fault(f"place {word}"), (1, 7 + len(word)))
            self.assertIsNone(web_fault(f"place {word}s\nplace {word}1\n"))
            self.assertEqual(read_web(web_goes_on(f"place {word}")).places()[0][:len(word)], word)

    def test_names_that_have_run_out(self):
        seven = "".join(f"place abcdefg{sign}\n" for sign in ["", *NAME_SIGNS])
        self.assertIsNone(web_fault(seven))
        self.assertEqual(web_fault(seven + "place abcdefg"), (38, 13))
        self.assertEqual(web_fault(seven + "place abcdef"), (38, 13))
        self.assertEqual(web_fault(seven + "place abcdef\n"), None)
        self.assertIsNone(web_goes_on(seven + "place abcdefg"))
        lacks = seven.replace("place abcdefg7\n", "")
        self.assertEqual(web_goes_on(lacks + "place abcdefg"), lacks + "place abcdefg7\n")
        self.assertEqual(web_fault(lacks + "place abcdefg0"), (37, 14))
        six = ["border" + one + two for one in NAME_SIGNS for two in ["", *NAME_SIGNS]]
        text = "".join(f"place {name}\n" for name in six)
        self.assertEqual((len(six), len(text)), (1332, 19944))
        self.assertEqual(web_fault(text + "place border\n"), (1333, 12))
        self.assertEqual(web_fault(text + "place bordes"), (1333, 13))

    def test_by_a_plain_reader(self):
        texts = ["place a\nplace ab\ntie a ab 1\n", "place b\nplace a\nplace aa\ntie aa a -10\ntie b aa 0\n",
                 "place tiea\nplace lot1\ntie lot1 tiea 30\nplace z\ntie z tiea 7\n", web_text(W)]
        can_go_on = can_go_on_by(plain_read, templates)
        for text in mutations(texts, "ab1 0-\n\netpl", 2, 900):
            fault = first_fault(can_go_on, plain_read, text)
            self.assertEqual(web_fault(text), fault, text)
            if fault is None:
                self.assertEqual(read_web(text), plain_read(text))

    def test_just_one_of_going_on_and_a_fault_on_a_sign(self):
        texts = [web_text(web) for web in small_webs(3, 30)] + ["place a\nplace ab\ntie a ab -12\n"]
        for text in mutations(texts, "abc1 0-\n\netpl", 3, 900):
            fault = web_fault(text)
            longer = web_goes_on(text)
            lines = text.split("\n")
            on_a_sign = fault is not None and fault != (len(lines), len(lines[-1]) + 1)
            self.assertNotEqual(longer is None, not on_a_sign, text)
            if longer is not None:
                self.assertTrue(longer.startswith(text))
                self.assertIsNotNone(plain_read(longer))
                self.assertEqual(web_goes_on(text), longer)

    def test_going_on_from_each_beginning(self):
        for text in (web_text(W), "place tieb\nplace b\ntie b tieb -1234567890123456\n"):
            for many in range(len(text) + 1):
                longer = web_goes_on(text[:many])
                self.assertTrue(longer.startswith(text[:many]))
                self.assertIsNotNone(plain_read(longer))

    def test_any_object(self):
        for thing in odd_objects():
            if not isinstance(thing, str):
                self.assertEqual(web_fault(thing), (0, 0))
                self.assertIsNone(web_goes_on(thing))
                self.assertEqual(raised(read_web, thing), (BadText, 0, 0))


if __name__ == "__main__":
    unittest.main()
