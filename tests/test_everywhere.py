"""Section 2 and the interface: names, parameters, what is told and what is passed."""

import copy
import importlib
import inspect
import unittest

from helpers import M, NONE, R, V, W, odd_objects, raised
from partswithin import errors
from partswithin.webs import Web

INTERFACE = {
    "webs": ["Web(places, ties)"],
    "pictures": ["picture_web(picture)"],
    "webtexts": ["web_text(web)", "read_web(text)", "web_fault(text)", "web_goes_on(text)"],
    "picturetexts": ["picture_text(picture)", "read_picture(text)", "picture_fault(text)"],
    "lottexts": ["lots_text(lots)", "read_lots(text)", "lots_fault(text)", "ties_text(ties)",
                 "read_ties(text)", "ties_fault(text)"],
    "nesttexts": ["nest_text(nest)", "read_nest(text)", "nest_fault(text)", "priced_text(rows)",
                  "read_priced(text)", "priced_text_fault(text)", "joins_text(rows)",
                  "read_joins(text)", "joins_fault(text)", "claim_text(claim)", "read_claim(text)",
                  "claim_fault(text)"],
    "levels": ["lots_below(web, height)", "parts(web)", "level(web, one, other)",
               "level_way(web, one, other, height)", "level_lot(web, one, other, height)"],
    "forests": ["forest_fault(web, roots, thing)", "pieces(web, roots, forest)",
                "least_forest(web, roots)", "exchange(web, roots, forest)",
                "is_exchange(web, roots, forest, thing)"],
    "tables": ["table_of(web, nest)", "level_nest(web)", "nest_of_table(web, table)",
               "table_ring(web, table)"],
    "hollows": ["floor(web, place)", "falls(web, place)", "hollows(web)", "hollow_of(web, place)",
                "is_hollow(web, thing)", "fall_down(web, place)"],
    "whose": ["hollows_under(web, place)", "fall_to(web, place, hollow)", "sure_places(web, hollow)",
              "shared_places(web)"],
    "stuck": ["fall_within(web, lot, place)", "stuck(web, lot, place)"],
}

# right things for each parameter, for the web W, and the first error that each is to raise
RIGHT = {"web": W, "height": 1, "one": "a", "other": "e", "roots": [["b", "a"], ["d", "e"]],
         "forest": [["c", "b"]], "thing": None, "nest": [[["b", "a"], 1]], "place": "c",
         "table": [["b", "a", 1], ("b", "c", 2), ("c", "d", None), ("d", "e", 1)],
         "hollow": ["e", "d"], "lot": ["c", "b", "a"]}
FIRST_WRONG = {"web": (5, (errors.BadWeb, 5)), "height": ("1", (errors.BadHeight, "1")),
               "one": ("f", (errors.NoPlace, "f")), "other": (7, (errors.NoPlace, 7)),
               "roots": (None, (errors.BadRoots, 0)), "forest": ({}, (errors.BadForest, {})),
               "nest": ("n", (errors.BadNest, "n")), "place": ([], (errors.NoPlace, [])),
               "table": (4, (errors.BadTable, 4)), "hollow": (["c"], (errors.BadHollow, ["c"])),
               "lot": (["a", "f"], (errors.BadLot, 1))}


def listed():
    """All functions of the interface over webs, with the names of their parameters."""
    for module in ("levels", "forests", "tables", "hollows", "whose", "stuck"):
        for line in INTERFACE[module]:
            name, names = line[:-1].split("(")
            function = getattr(importlib.import_module(f"partswithin.{module}"), name)
            yield function, names.split(", ")


def swapped(thing):
    """The same with tuples for lists and lists for tuples."""
    if isinstance(thing, list):
        return tuple(swapped(part) for part in thing)
    return [swapped(part) for part in thing] if isinstance(thing, tuple) else thing


def lists_in(thing):
    """All lists and dicts in what is told, at every depth."""
    found = [thing] if isinstance(thing, (list, dict)) else []
    parts = thing.values() if isinstance(thing, dict) else thing
    for part in parts if isinstance(thing, (list, tuple, dict)) else []:
        found += lists_in(part)
    return found


class Interface(unittest.TestCase):

    def test_names_parameters_and_files(self):
        for module, lines in INTERFACE.items():
            found = importlib.import_module(f"partswithin.{module}")
            for line in lines:
                name, names = line[:-1].split("(")
                with self.subTest(line):
                    self.assertEqual(getattr(found, name).__module__, f"partswithin.{module}")
                    parameters = inspect.signature(getattr(found, name)).parameters
                    self.assertEqual(list(parameters), names.split(", "))
        for method in ("places", "ties", "ties_of", "__eq__"):
            self.assertIn(method, vars(Web))


class Passed(unittest.TestCase):

    def test_the_earlier_parameters_error_is_raised(self):
        for function, names in listed():
            checked = [name for name in names if name in FIRST_WRONG and name != "thing"]
            if function.__name__ == "nest_of_table":
                self.assertEqual(checked, ["web", "table"])
            for at, name in enumerate(checked):
                things = [FIRST_WRONG[other][0] if other in checked[at:] else RIGHT[other]
                          for other in names]
                with self.subTest(function=function.__name__, first=name):
                    self.assertEqual(raised(function, *things), FIRST_WRONG[name][1])

    def test_every_web_and_place_that_is_none(self):
        for function, names in listed():
            for name, error in (("web", errors.BadWeb), ("place", errors.NoPlace), ("one", errors.NoPlace),
                                ("other", errors.NoPlace)):
                for thing in odd_objects():
                    if name not in names or isinstance(thing, Web) and name == "web" or thing in ("a", "b"):
                        continue
                    things = [thing if other == name else RIGHT[other] for other in names]
                    try:
                        function(*things)
                        self.fail((function.__name__, name, thing))
                    except error as kept:
                        self.assertIs(kept.thing, thing)

    def test_lists_and_tuples_are_alike_and_nothing_is_changed(self):
        for function, names in listed():
            things = [RIGHT[name] for name in names]
            before = copy.deepcopy([thing for thing in things if thing is not W])
            told = function(*things)
            with self.subTest(function.__name__):
                self.assertEqual([thing for thing in things if thing is not W], before)
                self.assertEqual(function(*[swapped(thing) for thing in things]), told)
                self.assertEqual(function(**dict(zip(names, things))), told)

    def test_what_is_told_is_new_each_time(self):
        for function, names in listed():
            things = [RIGHT[name] for name in names]
            told = function(*things)
            kept = copy.deepcopy(told)
            with self.subTest(function.__name__):
                found = lists_in(told)
                self.assertEqual(len({id(part) for part in found}), len(found))
                for part in found:
                    part.clear()
                self.assertEqual(function(*things), kept)
                self.assertEqual(W.places(), list("abcde"))

    def test_shades_and_rows_are_not_changed(self):
        from partswithin.nesttexts import priced_text
        from partswithin.pictures import picture_web
        before = copy.deepcopy((M, V))
        picture_web(M)
        priced_text(V)
        self.assertEqual((M, V), before)

    def test_same_place_comes_behind_no_place_and_ahead_of_bad_height(self):
        from partswithin.levels import level, level_lot, level_way
        self.assertEqual(raised(level, W, "c", "c"), (errors.SamePlace, "c"))
        for function in (level_way, level_lot):
            self.assertEqual(raised(function, W, "c", "c", None), (errors.SamePlace, "c"))
            self.assertEqual(raised(function, W, "x", "x", None), (errors.NoPlace, "x"))
            self.assertEqual(raised(function, R, "p", "q", True), (errors.BadHeight, True))

    def test_functions_of_a_web_alone(self):
        for function, names in listed():
            if names == ["web"]:
                self.assertEqual(function(NONE), [])


if __name__ == "__main__":
    unittest.main()
