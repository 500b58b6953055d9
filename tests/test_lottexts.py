"""Point [12]: texts of lots and of ties."""

import unittest

from helpers import BARRED, LOT, NAME, NONE, a_function, can_go_on_by, first_fault, lines_of, match
from helpers import mutations, odd_objects, raised
from partswithin.errors import BadForm, BadText
from partswithin.lottexts import lots_fault, lots_text, read_lots, read_ties, ties_fault, ties_text

NAME_SIGNS = "abcdefghijklmnopqrstuvwxyz0123456789"
SEVEN = ["abcdefg" + sign for sign in ["", *NAME_SIGNS]]


def plain_lots(text):
    lines = lines_of(text)
    if lines is None or not all(match(f"lot ({LOT})", line) for line in lines):
        return None
    lots = [line[4:].split(", ") for line in lines]
    names = [name for lot in lots for name in lot]
    if len(set(names)) < len(names) or set(names) & set(BARRED):
        return None
    return sorted(sorted(lot) for lot in lots)


def plain_ties(text):
    lines = lines_of(text)
    if lines is None or not all(match(f"tie ({NAME}) ({NAME})", line) for line in lines):
        return None
    ties = [tuple(sorted(line.split(" ")[1:])) for line in lines]
    names = {name for tie in ties for name in tie}
    if len(set(ties)) < len(ties) or names & set(BARRED) or any(one == other for one, other in ties):
        return None
    return sorted(ties)


class LotTexts(unittest.TestCase):

    def test_written_ascending(self):
        lots = [("d", "c1"), ["b"], ["e", "a"]]
        self.assertEqual(lots_text(lots), "lot a, e\nlot b\nlot c1, d\n")
        self.assertEqual(lots, [("d", "c1"), ["b"], ["e", "a"]])
        self.assertEqual(lots_text(()), "")

    def test_read_as_told(self):
        self.assertEqual(read_lots("lot d, c1\nlot b\nlot e, a\n"), [["a", "e"], ["b"], ["c1", "d"]])
        self.assertEqual(read_lots(""), [])
        many = [[f"p{number}", f"q{number}"] for number in range(100)]
        self.assertEqual(read_lots(lots_text(many)), sorted(many))

    def test_the_first_wrong_sign(self):
        for text, fault in [
                ("lot a, a", (1, 9)), ("lot a, a\n", (1, 9)), ("lot a, ab\n", None), ("lot a", (1, 6)),
                ("lot a\nlot a\n", (2, 6)), ("lot a\nlot ab", (2, 7)), ("lot a,b\n", (1, 7)), ("lot", (1, 4)),
                ("lot \n", (1, 5)), ("lot a,\n", (1, 7)), ("lot a \n", (1, 6)), ("lot a, \n", (1, 8)),
                ("\n", (1, 1)), ("lots a\n", (1, 4)), ("lot abcdefghi\n", (1, 13)), ("lot a,  b\n", (1, 8)),
                ("lot a\nlot b, c, a, d\n", (2, 12)), ("lot 1\n", (1, 5)), ("lot a, b\nlot c, d\n", None),
                ("tie a b\n", (1, 1)), ("", None), ("lot a\n ", (2, 1))]:
            with self.subTest(text):
                self.assertEqual(lots_fault(text), fault)
                expected = None if fault is None else (BadText, *fault)
                self.assertEqual(raised(read_lots, text), expected)
        for word in BARRED:
            self.assertEqual(lots_fault(f"lot b, {word}\n"), (1, 8 + len(word)))
            self.assertIsNone(lots_fault(f"lot b, {word}s\n"))

    def test_names_that_have_run_out(self):
        text = "lot " + ", ".join(SEVEN)
        self.assertIsNone(lots_fault(text + "\n"))
        self.assertEqual(lots_fault(text + ", abcdefg"), (1, len(text) + 9))
        self.assertEqual(lots_fault(text + ", abcdef\n"), None)
        self.assertEqual(lots_fault(text + "\nlot abcdefg"), (2, 11))
        six = ["border" + one + two for one in NAME_SIGNS for two in ["", *NAME_SIGNS]]
        text = "lot " + ", ".join(six) + "\n"
        self.assertEqual(lots_fault(text + "lot border"), (2, 10))
        self.assertEqual(lots_fault(text.replace("border7, ", "") + "lot border"), (2, 11))

    def test_by_a_plain_reader(self):
        texts = ["lot a, b\nlot c\n", "lot lot1\nlot a1, z, ab\n", "lot c, b\nlot at1, a, ac\nlot d\n"]
        can_go_on = can_go_on_by(lambda text: plain_lots(text) is not None,
                                 lambda _: ["lot qqqqqqqq, q9z\n", "lot zzzzzz\n"])
        for text in mutations(texts, "abct1 ,,\n\nlo", 4, 900):
            fault = first_fault(can_go_on, lambda text: plain_lots(text) is not None, text)
            self.assertEqual(lots_fault(text), fault, text)
            if fault is None:
                self.assertEqual(read_lots(text), plain_lots(text))

    def test_bad_forms(self):
        wrong = [["a"], [[]], [["a"], []], [["a", "a"]], [["a"], ["b", "a"]], [["tie"]], ["ab"], [["A"]],
                 [[["a"]]], [["a", None]], [["a"], 3], {"a": 1}, [{"a": 1}], "", None, 0, False,
                 NONE, a_function, [[a_function]], [[NONE]], [["abcdefghi"]], [[1]]]
        for thing in wrong:
            self.assertEqual(raised(lots_text, thing), (BadForm, thing))
            try:
                lots_text(thing)
            except BadForm as error:
                self.assertIs(error.thing, thing)

    def test_any_object(self):
        for thing in odd_objects():
            for function in (lots_text, ties_text):
                if raised(function, thing) is not None:
                    self.assertEqual(raised(function, thing)[0], BadForm)
            if not isinstance(thing, str):
                for fault, read in ((lots_fault, read_lots), (ties_fault, read_ties)):
                    self.assertEqual(fault(thing), (0, 0))
                    self.assertEqual(raised(read, thing), (BadText, 0, 0))


class TieTexts(unittest.TestCase):

    def test_written_and_read_ascending(self):
        ties = (["c", "b"], ("a", "c"), ["b", "a"])
        self.assertEqual(ties_text(ties), "tie a b\ntie a c\ntie b c\n")
        self.assertEqual(read_ties("tie c b\ntie a c\ntie b a\n"), [("a", "b"), ("a", "c"), ("b", "c")])
        self.assertEqual((ties_text([]), read_ties("")), ("", []))

    def test_the_first_wrong_sign(self):
        for text, fault in [
                ("tie a b\n", None), ("tie a a\n", (1, 8)), ("tie a ab\n", None), ("tie a\n", (1, 6)),
                ("tie a b\ntie b a\n", (2, 8)), ("tie a b\ntie a b\n", (2, 8)), ("tie a b c\n", (1, 8)),
                ("tie a b\ntie b aa\n", None), ("tie a b", (1, 8)), ("tie", (1, 4)), ("tie a ", (1, 7)),
                ("tie a  b\n", (1, 7)), ("tie a b 1\n", (1, 8)), ("tie 1 b\n", (1, 5)), ("\n", (1, 1)),
                ("lot a\n", (1, 1)), ("tie abcdefgh abcdefgh\n", (1, 21)), ("", None)]:
            with self.subTest(text):
                self.assertEqual(ties_fault(text), fault)
                expected = None if fault is None else (BadText, *fault)
                self.assertEqual(raised(read_ties, text), expected)
        for word in BARRED:
            self.assertEqual(ties_fault(f"tie {word} a\n"), (1, 5 + len(word)))
            self.assertEqual(ties_fault(f"tie b {word}\n"), (1, 7 + len(word)))
            self.assertIsNone(ties_fault(f"tie {word}s s{word}\n"))

    def test_names_that_have_run_out(self):
        text = "".join(f"tie {name} b\n" for name in SEVEN)
        self.assertIsNone(ties_fault(text))
        self.assertEqual(ties_fault(text + "tie b abcdefg"), (38, 13))
        self.assertEqual(ties_fault(text + "tie c abcdefg"), (38, 14))
        self.assertEqual(ties_fault(text + "tie abcdefg b"), (38, 14))
        self.assertEqual(ties_fault(text + "tie abcdefg b\n"), (38, 14))
        own = "".join(f"tie {SEVEN[3]} {name}\n" for name in SEVEN if name != SEVEN[3])
        self.assertEqual(ties_fault(own + f"tie {SEVEN[3]} abcdefg"), (37, 20))
        six = ["border" + one + two for one in NAME_SIGNS for two in ["", *NAME_SIGNS]]
        text = "".join(f"tie a {name}\n" for name in six)
        self.assertEqual(ties_fault(text + "tie a border"), (1333, 12))
        self.assertEqual(ties_fault(text + "tie border a\n"), (1333, 11))

    def test_by_a_plain_reader(self):
        texts = ["tie a b\ntie c ab\n", "tie tie1 a\ntie ab a\n", "tie b a\ntie b c\ntie c a\n"]
        can_go_on = can_go_on_by(lambda text: plain_ties(text) is not None,
                                 lambda _: ["tie qqqqqqqq q9z\n", "tie zz zzzz\n"])
        for text in mutations(texts, "abct1 \n\nie", 5, 900):
            fault = first_fault(can_go_on, lambda text: plain_ties(text) is not None, text)
            self.assertEqual(ties_fault(text), fault, text)
            if fault is None:
                self.assertEqual(read_ties(text), plain_ties(text))

    def test_bad_forms(self):
        wrong = [["a"], [("a",)], [("a", "a")], [("a", "b"), ("b", "a")], [("a", "b"), ["a", "b"]],
                 [("a", "b", 1)], [("a", "tie")], ["ab"], [("A", "b")], {("a", "b"): 1}, [{"a": 1, "b": 2}],
                 "", None, 0, NONE, a_function, [("a", NONE)], [("a", ["b"])], [(1, 2)], [[]]]
        for thing in wrong:
            self.assertEqual(raised(ties_text, thing), (BadForm, thing))
            try:
                ties_text(thing)
            except BadForm as error:
                self.assertIs(error.thing, thing)


if __name__ == "__main__":
    unittest.main()
