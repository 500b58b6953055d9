"""Point [44]: hollows let go in an order, and the nests of the lots that join."""

import itertools
import random
import unittest

from helpers import NONE, W, odd_objects, raised, small_webs
from partswithin.errors import BadOrder, BadWeb
from partswithin.hollows import hollows
from partswithin.levels import parts
from partswithin.orders import count_nests, nest_by_order, order_fault
from partswithin.ridges import ridge_fault
from partswithin.rooted import may_join, roots_fault
from partswithin.webs import Web
from plain import partings_by_ridges, sharings, webs_with_hollows
from test_rooted import FIVE

ORDER = [["c", "d"], ["a", "b"]]
NEST = [(["a", "b"], 0), (["a", "b", "c", "d", "e"], 1), (["c", "d", "e"], 0)]
# three hollows in a ring of equal ridges, and one apart
RING = Web(list("abcdefxy"), [("a", "b", 0), ("c", "d", 0), ("e", "f", 0), ("b", "c", 2), ("d", "e", 2),
                              ("a", "f", 2), ("x", "y", 1)])


def some_webs():
    return webs_with_hollows(small_webs(120, 500, 7, chance=0.4, most=1))[:25] + small_webs(121, 15, 5) + [RING]


def plain_nests(web, order):
    """All nests by an order, by the words of [43] and [44]."""
    part_of = {place: at for at, part in enumerate(parts(web)) for place in part}
    rows = [(lots, [(lot, 0) for lot in lots]) for lots in partings_by_ridges(web)]
    left = list(order)
    level = 0
    for pit in order:
        if not any(part_of[other[0]] == part_of[pit[0]] for other in left if other != pit):
            continue
        level += 1
        found = []
        for lots, nest in rows:
            index = [at for at, lot in enumerate(lots) if pit[0] in lot][0]
            for other in may_join(web, left, lots, index):
                new = sorted(lots[index] + lots[other])
                rest = [lot for at, lot in enumerate(lots) if at not in (index, other)]
                found.append((sorted(rest + [new]), nest + [(new, level)]))
        rows = found
        left = [other for other in left if other != pit]
        assert all(roots_fault(web, left, lots) is None for lots, _ in rows)
    return sorted(sorted(nest) for _, nest in rows)


def fault_of(web, order, nest, right):
    """The fault of a nest of the right form, from the list of all nests by the order."""
    if nest in right:
        return None
    if ridge_fault(web, [lot for lot, level in nest if level == 0]) is not None:
        return ("ridges",)
    level = 1
    while any(up_to(nest, level) == up_to(other, level) for other in right):
        level += 1
    return ("step", level)


def up_to(nest, most):
    return sorted((lot, level) for lot, level in nest if level <= most)


class Orders(unittest.TestCase):

    def test_the_example(self):
        self.assertEqual(nest_by_order(FIVE, ORDER), NEST)
        self.assertIsNone(order_fault(FIVE, (("d", "c"), ("b", "a")), (NEST[1], NEST[0], [("e", "d", "c"), 0])))
        self.assertEqual(count_nests(FIVE, ORDER), 1)
        self.assertEqual(count_nests(W, [["a", "b"], ["d", "e"]]), 2)

    def test_nothing_and_parts_with_one_hollow(self):
        self.assertEqual((nest_by_order(NONE, []), order_fault(NONE, [], []), count_nests(NONE, [])), ([], None, 1))
        lone = Web(["b", "a"], [])
        self.assertEqual(nest_by_order(lone, [["b"], ["a"]]), [(["a"], 0), (["b"], 0)])
        self.assertEqual(order_fault(lone, [["b"], ["a"]], [(["a"], 0), (["b"], 0), (["a", "b"], 1)]), ("form",))

    def test_the_last_one_of_each_part_stays(self):
        for order in itertools.permutations(hollows(RING)):
            nest = nest_by_order(RING, order)
            self.assertEqual(sorted(level for _, level in nest), [0, 0, 0, 0, 1, 2])
            self.assertIn((["a", "b", "c", "d", "e", "f"], 2), nest)
            self.assertIn((["x", "y"], 0), nest)
            self.assertEqual(count_nests(RING, order), 2)

    def test_each_fault_in_its_order(self):
        wrong = [NEST[:1], NEST[::2], NEST + [(["a"], -1)], [(lot, 0) for lot, _ in NEST],
                 [(lot, level + 1) for lot, level in NEST], NEST + [(["d", "e"], 1)], NEST + [(["c"], 0)],
                 [(["a", "b"], 0), (["a", "b", "c", "d", "e"], 2), (["c", "d", "e"], 0)],
                 [(["a", "b"], 0), (["a", "b", "c", "d", "e"], True), (["c", "d", "e"], 0)],
                 [(["a", "b"], 0), (["a", "b", "c", "d", "e", "f"], 1), (["c", "d", "e", "f"], 0)],
                 [(["a", "b"], 0), (["b", "c", "d", "e"], 1), (["c", "d", "e"], 0)]]
        for thing in odd_objects() + wrong:
            self.assertEqual(order_fault(FIVE, ORDER, thing), ("form",), thing)
        self.assertEqual(order_fault(FIVE, ORDER, [(["a", "b", "c"], 0), (["d", "e"], 0), (list("abcde"), 1)]),
                         ("ridges",))
        # a name that is no place stands above the lots at level 0 alone
        self.assertEqual(order_fault(FIVE, ORDER, [NEST[0], NEST[2], (list("abcdef"), 1)]), ("step", 1))

    def test_the_first_step_that_is_wrong(self):
        order = [["a", "b"], ["c", "d"], ["e", "f"], ["x", "y"]]
        base = [(["a", "b"], 0), (["c", "d"], 0), (["e", "f"], 0), (["x", "y"], 0)]
        for first, fault in ((["a", "b", "c", "d"], None), (["a", "b", "e", "f"], None), (["c", "d", "e", "f"], ("step", 1)),
                             (["a", "b", "x", "y"], ("step", 1))):
            nest = base + [(first, 1), (["a", "b", "c", "d", "e", "f"], 2)]
            if "x" not in first:
                self.assertEqual(order_fault(RING, order, nest), fault)
        self.assertEqual(order_fault(RING, order, base + [(["a", "b", "c", "d"], 1), (["e", "f", "x", "y"], 2)]),
                         ("step", 2))

    def test_over_small_webs(self):
        source = random.Random(122)
        for web in some_webs():
            for order in source.sample(list(itertools.permutations(hollows(web))), 1):
                right = plain_nests(web, order)
                self.assertEqual(count_nests(web, order), len(right))
                self.assertIn(nest_by_order(web, [pit[::-1] for pit in order]), right)
                for nest in right:
                    shuffled = source.sample([(lot[::-1], level) for lot, level in nest], len(nest))
                    self.assertIsNone(order_fault(web, order, shuffled))

    def test_other_nests_over_small_webs(self):
        stood = {}
        for web in some_webs():
            order = hollows(web)[::-1]
            right = plain_nests(web, order)
            for nest in self.other_nests(web, right):
                told = order_fault(web, order, nest[::-1])
                self.assertEqual(told, fault_of(web, order, nest, right))
                stood[None if told is None else told[0]] = True
        self.assertEqual(len(stood), 3)

    def other_nests(self, web, right):
        """Nests of the right form: other lots at level 0, and other ones joined, as they come."""
        many = max(level for _, level in right[0]) if right[0] else 0
        source = random.Random(123)
        every = [lots for lots in sharings(web.places()) if len(lots) > many]
        for lots in source.sample(every, min(60, len(every))) + partings_by_ridges(web)[:5]:
            nest = [(lot, 0) for lot in lots]
            for level in range(1, many + 1):
                one, other = source.sample(lots, 2)
                nest.append((sorted(one + other), level))
                lots = sorted([lot for lot in lots if lot not in (one, other)] + [sorted(one + other)])
            yield sorted(nest)

    def test_bad_orders(self):
        for function in (nest_by_order, order_fault, count_nests):
            more = [None] * (function.__code__.co_argcount - 2)
            for thing in odd_objects():
                if not isinstance(thing, (list, tuple)):
                    self.assertEqual(raised(function, W, thing, *more), (BadOrder, 0))
                self.assertEqual(raised(function, W, [["b", "a"], thing, 5], *more), (BadOrder, 1))
                if not isinstance(thing, Web):
                    self.assertEqual(raised(function, thing, 5, *more)[0], BadWeb)
            self.assertEqual(raised(function, W, [], *more), (BadOrder, 0))
            self.assertEqual(raised(function, W, [["d", "e"]], *more), (BadOrder, 1))
            self.assertEqual(raised(function, W, [["d", "e"], ["e", "d"]], *more), (BadOrder, 1))
            self.assertEqual(raised(function, W, [["d", "e"], ["a", "b"], ["a", "b"]], *more), (BadOrder, 2))

    def test_two_hundred_places(self):
        source = random.Random(14)
        places = [f"p{number}" for number in range(200)]
        pairs = source.sample(list(itertools.combinations(places, 2)), 600)
        web = Web(places, [(one, other, source.randint(0, 30)) for one, other in pairs])
        order = source.sample(hollows(web), len(hollows(web)))
        nest = nest_by_order(web, order)
        self.assertGreater(len(nest), 40)
        self.assertIsNone(order_fault(web, order, nest))


if __name__ == "__main__":
    unittest.main()
