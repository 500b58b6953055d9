"""Point [56]: best partings of so many lots, and numbers of lots that no price reaches."""

import unittest

import nests
from helpers import NO_INTEGERS, V, check_errors, odd_objects, raised
from partswithin.errors import BadNumber, BadPriced
from partswithin.priced import Priced
from partswithin.sizes import is_with_so_many, with_so_many

NEST = Priced(V)
TWO = [["a", "b"], ["c", "d"]]
FUNCTIONS = ((with_so_many, ["priced", "many"]), (is_with_so_many, ["priced", "many", "thing"]))
# three alone, or all in one from 1 on; and two of three that are never joined
JUMP = Priced([(["a"], 0, 1), (["b"], 0, 1), (["c"], 0, 1), (["a", "b", "c"], 3, 0)])
NEVER = Priced([(["a"], 0, 1), (["b"], 0, 1), (["c"], 0, 1), (["a", "b"], 1, 1), (["a", "b", "c"], 9, 2)])


def plain_answer(priced, many):
    """What is to be told, and all partings that may be told with it, by listing the best ones."""
    found = [(price, nests.best_ones(priced, nests.pair_of(price))) for price in nests.turning_prices(priced)]
    for price, best in found:
        fits = [lots for lots in best if len(lots) == many]
        if fits:
            return ("at", nests.pair_of(price)), fits
    for price, best in found:
        numbers = [len(lots) for lots in best]
        if min(numbers) < many < max(numbers):
            return ("between", nests.pair_of(price)), None
    return ("never", min(len(lots) for _, best in found for lots in best)), None


def numbers_of(priced):
    """From how many greatest lots there are to how many places."""
    fewest = min(len(lots) for lots in nests.all_partings(priced))
    return range(fewest, len(priced.places()) + 1)


class Sizes(unittest.TestCase):

    def test_the_example(self):
        self.assertEqual(with_so_many(NEST, 2), ("at", (2, 1), TWO))
        self.assertEqual([with_so_many(NEST, many)[:2] for many in (1, 3, 4)],
                         [("at", (12, 5)), ("at", (1, 1)), ("at", (0, 1))])
        self.assertIs(is_with_so_many(NEST, 2, ["at", [2, 1], (("d", "c"), ["b", "a"])]), True)
        self.assertIs(is_with_so_many(NEST, 2, ("at", (2, 1), [["a", "b", "c"], ["d"]])), False)

    def test_between_and_never(self):
        self.assertEqual(with_so_many(JUMP, 2), ("between", (1, 1)))
        self.assertEqual(with_so_many(NEVER, 1), ("never", 2))
        self.assertIs(is_with_so_many(JUMP, 2, ["between", [1, 1]]), True)
        self.assertIs(is_with_so_many(NEVER, 1, ["never", 2]), True)
        self.assertEqual(with_so_many(Priced([]), 0), ("at", (0, 1), []))

    def test_the_least_price_of_several_with_fewer_and_more(self):
        # a, b, c are as dear in one as alone for ever; d, e, f are so at 1 alone
        rows = [([place], 0, 1) for place in "abcdef"] + [(list("abc"), 0, 3), (list("def"), 3, 0)]
        priced = Priced(rows)
        self.assertEqual([with_so_many(priced, many)[:2] for many in range(2, 7)],
                         [("at", (1, 1)), ("between", (1, 1)), ("at", (0, 1)), ("between", (0, 1)), ("at", (0, 1))])

    def test_of_lots_that_change_nothing_some_are_joined(self):
        rows = [([place], 0, 1) for place in "abcdefgh"] + [(list("abcdefgh"[at:at + 2]), 0, 2) for at in (0, 2, 4, 6)]
        priced = Priced(rows)
        for many in range(4, 9):
            word, price, lots = with_so_many(priced, many)
            self.assertEqual((word, price, len(lots)), ("at", (0, 1), many))
            self.assertEqual(nests.worth_of(priced, lots, price), 0)

    def test_over_small_nests(self):
        seen = {"at": 0, "between": 0, "never": 0}
        for priced in nests.small_nests(190, 150) + nests.small_nests(191, 12, 9):
            known = nests.all_partings(priced)
            for many in numbers_of(priced):
                right, partings = plain_answer(priced, many)
                told = with_so_many(priced, many)
                seen[told[0]] += 1
                self.assertEqual(told[:2], right)
                self.assertEqual(told[2:], () if partings is None else told[2:])
                if partings is not None:
                    self.assertIn(told[2], partings)
                    for lots in known[:40]:
                        self.assertIs(is_with_so_many(priced, many, ("at", told[1], lots[::-1])), lots in partings)
                self.assertIs(is_with_so_many(priced, many, told), True)
                for thing in (("at", (0, 1), known[0]), ("between", (0, 1)), ("between", (1, 1)), ("never", 1)):
                    self.assertIs(is_with_so_many(priced, many, thing),
                                  thing == told or thing[0] == "at" == told[0] and thing[1] == told[1]
                                  and thing[2] in partings)
        self.assertGreater(min(seen.values()), 15)

    def test_any_object(self):
        wrong = [("at", (2, 1)), ("at", (2, 1), TWO, 1), ("at", (4, 2), TWO), ("at", 2, TWO), ("at", (2, 1), TWO[:1]),
                 ("at", (3, 1), TWO), ("at", (2, 1), [["a"], ["b"]]), (["at"], (2, 1), TWO), ("at", (2, True), TWO),
                 ("at", None, TWO), ("at", (2, 1), [["a", "b"], ["c"], ["d"]]), ("between", (2, 1)), ("never", 2)]
        for thing in odd_objects() + wrong + [("at", (2, 1), thing) for thing in odd_objects()]:
            self.assertIs(is_with_so_many(NEST, 2, thing), False, thing)
        for thing in odd_objects() + [("between", (1, 1), []), ("between", (2, 2)), ("between", [True, 1]), ("at", (1, 1))]:
            self.assertIs(is_with_so_many(JUMP, 2, thing), False, thing)
            self.assertIs(is_with_so_many(JUMP, 2, ("between", thing)), False, thing)
        for thing in odd_objects() + [("never", "2"), ("never", 2, 2), ("never", True), ("never", 3), ("at", (0, 1), TWO)]:
            self.assertIs(is_with_so_many(NEVER, 1, thing), False, thing)

    def test_truths_are_no_numbers(self):
        alone = Priced([(["a"], 0, 1), (["b"], 0, 1), (["a", "b"], 1, 2)])
        # never less than two: True must not count for 1, nor 2 for another thing
        self.assertEqual(with_so_many(alone, 1), ("never", 2))
        one = Priced([(["a"], 0, 1)])
        self.assertEqual(raised(with_so_many, one, True), (BadNumber, True))

    def test_sixty_places_and_a_hundred_lots(self):
        for rows in (nests.chain(60), nests.halves(60)):
            priced = Priced(rows)
            for many in (1, 2, 17, 59, 60):
                told = with_so_many(priced, many)
                self.assertEqual(with_so_many(Priced(rows[::-1]), many), told)
                self.assertIs(is_with_so_many(priced, many, told), True)
            self.assertEqual(with_so_many(priced, 60), ("at", (0, 1), [[place] for place in priced.places()]))

    def test_wrong_things(self):
        check_errors(self, FUNCTIONS, {"priced": NEST, "many": 1, "thing": None},
                     {"priced": (odd_objects() + [V], BadPriced),
                      "many": (NO_INTEGERS + [-1, 0, 5, 10 ** 30, (1,), (2, 1)], BadNumber)})


if __name__ == "__main__":
    unittest.main()
