"""Point [48]: priced nests."""

import copy
import inspect
import random
import unittest

import nests
from helpers import NONE, NO_INTEGERS, V, odd_objects, raised
from partswithin import errors
from partswithin.errors import BadLosses, BadRows, NoLot
from partswithin.priced import Priced, priced_fault


def odd_rows():
    """Things that are no row of a priced nest."""
    rows = [(["a"], 1), (["a"], 1, 1, 1), ([], 0, 0), (["a", "a"], 0, 0), (["A"], 0, 0), (["tie"], 0, 0),
            ("a", 0, 0), (["a", 1], 0, 0), (["a", []], 0, 0), ({"a": 1}, 0, 0), (["a"], -1, 0), (["a"], 0, -1),
            [None, 0, 0], ["lot", 0, 0], (["abcdefghi"], 0, 0)]
    return odd_objects() + rows + [(["a"], thing, 0) for thing in NO_INTEGERS] + [(["a"], 0, thing)
                                                                                for thing in NO_INTEGERS]


def plain_row_fault(rows):
    """The index of the first row whose lot stood before or crosses one ahead, by the words."""
    for index, row in enumerate(rows):
        for ahead in rows[:index]:
            one, other = set(row[0]), set(ahead[0])
            if one == other or one & other and one - other and other - one:
                return index
    return None


def plain_parts(rows, lot):
    inner = [row[0] for row in rows if set(row[0]) < set(lot)]
    return sorted(sorted(one) for one in inner if not any(set(one) < set(other) for other in inner))


def plain_fault(rows):
    """What priced_fault tells of rows that are right, by the words."""
    lots = {tuple(sorted(lot)): (loss, border) for lot, loss, border in rows}
    for place in sorted({place for lot in lots for place in lot}):
        if (place,) not in lots:
            return ("place", place)
    for lot in sorted(lots):
        parts = [lots[tuple(part)] for part in plain_parts(rows, lot)]
        if parts and lots[lot][0] < sum(loss for loss, _ in parts):
            return ("loss", list(lot))
        if parts and lots[lot][1] > sum(border for _, border in parts):
            return ("border", list(lot))
    return None


class Nests(unittest.TestCase):

    def test_the_example(self):
        priced = Priced(V)
        self.assertEqual(priced.rows(), sorted(V))
        self.assertEqual(priced.places(), ["a", "b", "c", "d"])
        self.assertEqual(priced.parts(["d", "b", "a", "c"]), [["a", "b"], ["c", "d"]])
        self.assertEqual(priced.parts(("b", "a")), [["a"], ["b"]])
        self.assertEqual(priced.parts(["a"]), [])
        self.assertEqual((priced.loss(["b", "a"]), priced.border(("d", "c"))), (2, 3))
        self.assertIsNone(priced_fault(V))

    def test_nothing(self):
        for rows in ([], ()):
            self.assertEqual((Priced(rows).rows(), Priced(rows).places(), priced_fault(rows)), ([], [], None))

    def test_the_interface(self):
        for method in ("rows", "places", "loss", "border", "parts", "__eq__"):
            self.assertIn(method, vars(Priced))
        self.assertEqual(list(inspect.signature(Priced).parameters), ["rows"])
        self.assertEqual(list(inspect.signature(priced_fault).parameters), ["rows"])
        for method in (Priced.loss, Priced.border, Priced.parts):
            self.assertEqual(list(inspect.signature(method).parameters), ["self", "lot"])

    def test_lists_tuples_and_orders_are_alike(self):
        shuffled = tuple([tuple(lot[::-1]), loss, border] for lot, loss, border in V[::-1])
        self.assertEqual(Priced(shuffled), Priced(V))
        self.assertEqual(Priced(shuffled).rows(), sorted(V))

    def test_equal_if_rows_are(self):
        other = [(lot, loss + (len(lot) == 4), border) for lot, loss, border in V]
        self.assertNotEqual(Priced(V), Priced(other))
        self.assertNotEqual(Priced(V), Priced(V[:-1]))
        self.assertEqual(Priced([]), Priced([]))
        for thing in odd_objects() + [V, sorted(V)]:
            self.assertFalse(Priced(V) == thing)
            self.assertTrue(Priced(V) != thing)

    def test_what_is_passed_is_copied_and_told_things_are_new(self):
        rows = [list(row) for row in copy.deepcopy(V)]
        priced = Priced(rows)
        rows[0][1] = 9
        rows[4][0].append("z")
        rows.clear()
        self.assertEqual(priced, Priced(V))
        priced.rows()[0][0].append("y")
        priced.rows().clear()
        priced.places().clear()
        priced.parts(["a", "b"])[0].clear()
        self.assertEqual(priced.rows(), sorted(V))
        self.assertEqual((priced.places(), priced.parts(["a", "b"])), (["a", "b", "c", "d"], [["a"], ["b"]]))

    def test_over_small_nests(self):
        for priced in nests.small_nests(140, 120):
            rows = priced.rows()
            self.assertEqual(rows, sorted(rows))
            self.assertEqual(priced.places(), sorted({place for lot, _, _ in rows for place in lot}))
            for lot, loss, border in rows:
                self.assertEqual((priced.loss(lot[::-1]), priced.border(tuple(lot))), (loss, border))
                self.assertEqual(priced.parts(lot), plain_parts(rows, lot))

    def test_any_object_that_is_no_lot(self):
        priced = Priced(V)
        for method in (priced.loss, priced.border, priced.parts):
            for thing in odd_objects() + [["a", "c"], ["a", "b", "b"], ["a", "b", "c"], "a", ["a", None], ("a", ["b"])]:
                if thing in (["a"], ("a",), ["a", "b"]):
                    continue
                try:
                    method(thing)
                    self.fail(thing)
                except NoLot as error:
                    self.assertIs(error.thing, thing)

    def test_four_hundred_lots(self):
        for rows in (nests.chain(200), nests.halves(200)):
            priced = Priced(rows)
            self.assertEqual(len(priced.rows()), 399)
            self.assertEqual(len(priced.parts([place for place in priced.places()])), 2)
        self.assertEqual(raised(Priced, nests.chain(200) + [(["p000", "p002"], 1, 1)]), (BadRows, 399))


class Faults(unittest.TestCase):

    def test_bad_rows(self):
        for function in (Priced, priced_fault):
            for thing in odd_objects():
                if not isinstance(thing, (list, tuple)):
                    self.assertEqual(raised(function, thing), (BadRows, 0))
            for thing in odd_rows():
                self.assertEqual(raised(function, [(["b"], 0, 0), thing, 5]), (BadRows, 1), thing)
            self.assertEqual(raised(function, [(["a"], 0, 0), (["b"], 0, 0), (["a"], 0, 0)]), (BadRows, 2))
            self.assertEqual(raised(function, [(["a", "b"], 0, 0), (["b", "a"], 1, 0), 5]), (BadRows, 1))
            self.assertEqual(raised(function, [(["a", "b"], 0, 0), (["b", "c"], 1, 0)]), (BadRows, 1))
            self.assertEqual(raised(function, [(["a", "b", "c"], 0, 0), (["d"], 0, 0), (["c", "d"], 1, 0)]), (BadRows, 2))

    def test_losses(self):
        ones = [(["a"], 3, 5), (["b"], 4, 5), (["c"], 0, 0)]
        for rows, fault in (([(["b", "a"], 0, 0)], ("place", "a")), (ones[1:] + [(["a", "b"], 0, 99)], ("place", "a")),
                            (ones[:2] + [(["c", "a"], 0, 99)], ("place", "c")),
                            (ones + [(["b", "a"], 6, 11)], ("loss", ["a", "b"])),
                            (ones + [(["b", "a"], 7, 11)], ("border", ["a", "b"])),
                            (ones + [(["b", "a"], 7, 11), (["a", "b", "c"], 0, 0)], ("border", ["a", "b"])),
                            (ones + [(["b", "a"], 9, 10), (["c", "a", "b"], 8, 0)], ("loss", ["a", "b", "c"]))):
            self.assertEqual(priced_fault(rows), fault)
            self.assertEqual(raised(Priced, rows), (BadLosses, fault))
        self.assertIsNone(priced_fault(ones + [(["b", "a"], 7, 10)]))

    def test_bad_rows_come_ahead_of_losses(self):
        self.assertEqual(raised(Priced, [(["a", "b"], 0, 0), 5]), (BadRows, 1))

    def test_by_the_words(self):
        source = random.Random(141)
        stood = {}
        for _ in range(1500):
            rows = nests.priced_rows(source, list("abcde"[:source.randint(1, 5)]))
            for _ in range(source.randint(0, 2)):
                at = source.randrange(len(rows)) if rows else 0
                kind = source.randint(0, 3)
                if kind == 0 and rows:
                    del rows[at]
                elif kind == 1 and rows:
                    rows[at] = (rows[at][0], source.randint(0, 9), source.randint(0, 9))
                elif kind == 2:
                    rows.insert(at, (source.sample("abcde", source.randint(1, 3)), source.randint(0, 9), 0))
            index = plain_row_fault(rows)
            if index is not None:
                self.assertEqual(raised(priced_fault, rows), (BadRows, index))
                self.assertEqual(raised(Priced, rows), (BadRows, index))
                continue
            fault = plain_fault(rows)
            self.assertEqual(priced_fault(rows), fault)
            self.assertEqual(raised(Priced, rows), None if fault is None else (BadLosses, fault))
            stood[fault and fault[0]] = True
        self.assertEqual(len(stood), 4)

    def test_other_errors_are_not_raised(self):
        self.assertEqual(raised(Priced, [(["a"], 10 ** 30, 0)]), None)
        self.assertTrue(issubclass(errors.BadLosses, errors.PartsError))
        self.assertFalse(Priced([]) == NONE)


if __name__ == "__main__":
    unittest.main()
