"""Section 2 and the interface: names, parameters, what is told and what is passed."""

import copy
import importlib
import inspect
import pathlib
import re
import unittest

from helpers import M, NONE, R, V, W, odd_objects, raised
from partswithin import errors
from partswithin.priced import Priced
from partswithin.sessions import Session
from partswithin.webs import Web

INTERFACE = {
    "webs": ["Web(places, ties)"],
    "pictures": ["picture_web(picture)"],
    "webtexts": ["web_text(web)", "read_web(text)", "web_fault(text)", "web_goes_on(text)"],
    "picturetexts": ["picture_text(picture)", "read_picture(text)", "picture_fault(text)"],
    "lottexts": ["lots_text(lots)", "read_lots(text)", "lots_fault(text)", "ties_text(ties)",
                 "read_ties(text)", "ties_fault(text)"],
    "nesttexts": ["nest_text(nest)", "read_nest(text)", "nest_fault(text)", "priced_text(rows)",
                  "read_priced(text)", "priced_text_fault(text)", "joins_text(rows)",
                  "read_joins(text)", "joins_fault(text)", "claim_text(claim)", "read_claim(text)",
                  "claim_fault(text)"],
    "levels": ["lots_below(web, height)", "parts(web)", "level(web, one, other)",
               "level_way(web, one, other, height)", "level_lot(web, one, other, height)"],
    "forests": ["forest_fault(web, roots, thing)", "pieces(web, roots, forest)",
                "least_forest(web, roots)", "exchange(web, roots, forest)",
                "is_exchange(web, roots, forest, thing)"],
    "tables": ["table_of(web, nest)", "level_nest(web)", "nest_of_table(web, table)",
               "table_ring(web, table)"],
    "hollows": ["floor(web, place)", "falls(web, place)", "hollows(web)", "hollow_of(web, place)",
                "is_hollow(web, thing)", "fall_down(web, place)"],
    "whose": ["hollows_under(web, place)", "fall_to(web, place, hollow)", "sure_places(web, hollow)",
              "shared_places(web)"],
    "stuck": ["fall_within(web, lot, place)", "stuck(web, lot, place)"],
    "drops": ["drop(web, lot, place, height)", "is_drop(web, lot, place, height, thing)",
              "arrivals(web, lot, place, height)", "is_bar(web, lot, place, height, thing)"],
    "ridges": ["ridge_fault(web, thing)", "by_ridges(web)", "drop_fault(web, parting)",
               "forest_of(web, parting)"],
    "kinds": ["tie_kind(web, one, other)", "falls_apart(web, one, other)", "all_over(web, one, other)",
              "is_all_over(web, one, other, thing)", "falls_together(web, one, other)"],
    "firsts": ["first_parting(web, order)", "ridge_pass(web, parting, one, other)"],
    "steps": ["led(web, one, other)", "is_led(web, one, other, thing)"],
    "counted": ["count_partings(web)", "parting_at(web, number)", "parting_number(web, parting)"],
    "raising": ["levels_to(web, roots)", "raised(web, roots)"],
    "rooted": ["parting_by(web, roots)", "roots_fault(web, roots, thing)",
               "may_join(web, roots, parting, index)"],
    "orders": ["nest_by_order(web, order)", "order_fault(web, order, thing)", "count_nests(web, order)"],
    "water": ["lake_of(web, hollow, height)", "ends_at(web, kind)", "order_by(web, kind)"],
    "priced": ["Priced(rows)", "priced_fault(rows)"],
    "worths": ["parting_fault(priced, thing)", "weights(priced, parting)", "worth(priced, parting, price)"],
    "best": ["coarsest(priced, price)", "finest(priced, price)", "count_best(priced, price)",
             "best_at(priced, price, number)", "worse(priced, parting, price)",
             "is_worse(priced, parting, price, thing)"],
    "stretches": ["joins_at(priced, lot)", "stretch(priced, lot)", "price_row(priced)"],
    "pricesfor": ["prices_for(priced, parting)", "clash(priced, parting)", "is_clash(priced, parting, thing)"],
    "sizes": ["with_so_many(priced, many)", "is_with_so_many(priced, many, thing)"],
    "borders": ["within_border(priced, border)"],
    "losschanges": ["may_rise(priced, price, lot)", "must_fall(priced, price, lot)"],
    "shades": ["picture_priced(picture, lots)"],
    "toldprices": ["losses_for(priced, told)", "are_losses_for(priced, told, thing)",
                   "prices_clash(priced, told)", "joins_between(priced, told, lot)"],
    "ridgeaudits": ["audit_ridges(web_text, lots_text, ties_text)"],
    "priceaudits": ["joins_for(priced)", "audit_joins(priced_text, joins_text)",
                    "audit_claim(priced_text, joins_text, claim_text)"],
    "whynot": ["why_not_with(web, place, other)", "is_why_not_with(web, place, other, thing)",
               "together_from(priced, place, other)", "why_apart(priced, place, other, price)"],
    "twonests": ["common(one, other)", "whole(one, other)", "crossing(one, other)"],
    "agreeing": ["marks_for(web, sharing)", "no_marks(web, sharing)", "is_no_marks(web, sharing, thing)",
                 "agreeing(web, priced)"],
    "sessions": ["Session()"],
    "sessiontexts": ["write_session(session)", "read_session(text)"],
}
OVER_WEBS = ("levels", "forests", "tables", "hollows", "whose", "stuck", "drops", "ridges", "kinds",
             "firsts", "steps", "counted", "raising", "rooted", "orders", "water", "whynot", "agreeing")
OVER_NESTS = ("worths", "best", "stretches", "pricesfor", "sizes", "borders", "losschanges", "toldprices", "twonests")
NEST = Priced(V)
OVER_W = Priced([([place], 0, 2) for place in "abcde"] + [(["a", "b"], 1, 3), (["c", "d", "e"], 7, 2), (list("abcde"), 20, 0)])

PARTING = [["c", "b", "a"], ["d", "e"]]

# right things for each parameter, for the web W, and the first error that each is to raise
RIGHT = {"web": W, "height": 1, "one": "a", "other": "e", "roots": [["b", "a"], ["d", "e"]],
         "forest": [["c", "b"]], "thing": None, "nest": [[["b", "a"], 1]], "place": "c",
         "table": [["b", "a", 1], ("b", "c", 2), ("c", "d", None), ("d", "e", 1)],
         "hollow": ["e", "d"], "lot": ["c", "b", "a"], "parting": PARTING,
         "order": [("e", "d"), ["a", "b"]], "number": 1, "index": 0, "kind": "held",
         "priced": NEST, "price": [1, 1], "many": 2, "border": 9, "sharing": (["d", "c", "e"], ("b", "a")),
         "told": [[[5, 2], [["b", "a"], ("d", "c")]], ((1, 1), (["a"], ["c"], ["d"], ["b"]))]}
FIRST_WRONG = {"web": (5, (errors.BadWeb, 5)), "height": ("1", (errors.BadHeight, "1")),
               "one": ("f", (errors.NoPlace, "f")), "other": (7, (errors.NoPlace, 7)),
               "roots": (None, (errors.BadRoots, 0)), "forest": ({}, (errors.BadForest, {})),
               "nest": ("n", (errors.BadNest, "n")), "place": ([], (errors.NoPlace, [])),
               "table": (4, (errors.BadTable, 4)), "hollow": (["c"], (errors.BadHollow, ["c"])),
               "lot": (["a", "f"], (errors.BadLot, 1)), "parting": ([["a"]], (errors.BadParting, [["a"]])),
               "order": ([["a"]], (errors.BadOrder, 0)), "number": (-1, (errors.BadNumber, -1)),
               "index": (2, (errors.BadNumber, 2)), "kind": ("deep", (errors.BadKind, "deep")),
               "priced": (V, (errors.BadPriced, V)), "price": ((2, 2), (errors.BadPrice, (2, 2))),
               "many": (0, (errors.BadNumber, 0)), "border": (-1, (errors.BadNumber, -1)),
               "told": ([((1, 1), [["a"]])], (errors.BadTold, 0)), "sharing": ([["a"]], (errors.BadSharing, [["a"]]))}
# where a parameter's name means something else
RIGHT_IN = {"tie_kind": {"other": "b"},
            "led": {"one": PARTING, "other": [["b", "a"], ("c", "d", "e")]},
            "is_led": {"one": PARTING, "other": [["b", "a"], ("c", "d", "e")]},
            "may_join": {"parting": [["a", "b"], ("c", "d", "e")]},
            "joins_at": {"lot": ["d", "c"]}, "stretch": {"lot": ("d", "c")}, "joins_between": {"lot": list("dcba")},
            "may_rise": {"lot": ["b", "a"]}, "must_fall": {"lot": ["b"]},
            "together_from": {"other": "d"}, "why_apart": {"other": "d"}, "agreeing": {"priced": OVER_W}}
WRONG_IN = {name: {"one": ("f", (errors.BadParting, "f")), "other": ([], (errors.BadParting, []))}
            for name in ("led", "is_led")}
for nest_function in ("weights", "worth", "worse", "is_worse", "prices_for", "clash", "is_clash"):
    RIGHT_IN[nest_function] = {"parting": [["d", "c"], ("a",), ["b"]]}
for nest_function in ("joins_at", "stretch", "joins_between", "may_rise", "must_fall"):
    WRONG_IN[nest_function] = {"lot": (["a", "f"], (errors.NoLot, ["a", "f"]))}
for nest_function in ("common", "whole", "crossing"):
    RIGHT_IN[nest_function] = {"one": [(["b", "a"], 1)], "other": [[("c", "b"), -1], (["a", "c", "b"], 0)]}
    WRONG_IN[nest_function] = {"one": (5, (errors.BadNest, 5)), "other": ([[]], (errors.BadNest, [[]]))}
RIGHT_IN["whole"]["other"] = [[("e", "d"), 1], (["b", "a"], 0)]

# what the functions that take neither webs nor nests, or change something, are passed by name
TEXTS = {"lots_text": {"lots": [["b", "a"]]}, "ties_text": {"ties": [("b", "a")]}, "nest_text": {"nest": [(["a"], 1)]},
         "priced_text": {"rows": V}, "joins_text": {"rows": [(["b", "a"], (1, 2))]}, "claim_text": {"claim": ((1, 2), [["a"]])},
         "web_text": {"web": W}, "web_goes_on": {"text": "place"}, "picture_text": {"picture": M}, "picture_web": {"picture": M},
         "read_picture": {"text": "1 2\n"}, "read_ties": {"text": "tie a b\n"}, "read_joins": {"text": "join a at 1/2\n"},
         "read_claim": {"text": "price 1\n"}, "Web": {"places": ["b", "a"], "ties": [("b", "a", 1)]}, "Priced": {"rows": V},
         "priced_fault": {"rows": V[1:]}, "picture_priced": {"picture": M, "lots": [["r0c0", "r1c1"]]},
         "audit_ridges": {"web_text": "place a\n", "lots_text": "lot a\n", "ties_text": "tie a b\n"}, "joins_for": {"priced": NEST},
         "audit_joins": {"priced_text": "lot a loss 0 border 1\n", "joins_text": "join a at 0\n"},
         "audit_claim": {"priced_text": "lot a loss 0 border 1\n", "joins_text": "", "claim_text": "price 1\nlot b\n"},
         "write_session": {"session": Session()}}
# each method that has parameters, with what it is called on, made anew for each call
METHODS = ((lambda: W, "ties_of", {"place": "b"}), (lambda: NEST, "loss", {"lot": ["b", "a"]}), (lambda: NEST, "border", {"lot": ["b", "a"]}),
           (lambda: NEST, "parts", {"lot": ["b", "a"]}), (Session, "do", {"deed": ("place", "a")}), (Session, "at", {"number": 0}),
           (Session, "is_question", {"thing": ("hollows",)}), (Session, "answer", {"question": ("hollows",)}),
           (Session, "would", {"deed": ("place", "a")}), (Session, "trial", {"work": lambda session: session.do(("place", "a"))}))


def listed():
    """All functions over webs and priced nests, each with right and wrong things by parameter."""
    for module in OVER_WEBS + OVER_NESTS:
        for line in INTERFACE[module]:
            name, names = line[:-1].split("(")
            function = getattr(importlib.import_module(f"partswithin.{module}"), name)
            right = {key: RIGHT_IN.get(name, {}).get(key, RIGHT[key]) for key in names.split(", ")}
            wrong = {key: WRONG_IN.get(name, {}).get(key, FIRST_WRONG[key]) for key in right if key != "thing"}
            yield function, right, wrong


def swapped(thing):
    """The same with tuples for lists and lists for tuples."""
    if isinstance(thing, list):
        return tuple(swapped(part) for part in thing)
    return [swapped(part) for part in thing] if isinstance(thing, tuple) else thing


def lists_in(thing):
    """All lists and dicts in what is told, at every depth."""
    found = [thing] if isinstance(thing, (list, dict)) else []
    parts = thing.values() if isinstance(thing, dict) else thing
    for part in parts if isinstance(thing, (list, tuple, dict)) else []:
        found += lists_in(part)
    return found


def called_with(function, things, names):
    """What a call tells, or the error that it raises, as its class and what it keeps."""
    try:
        return function(*things, **names)
    except errors.PartsError as error:
        return (error.__class__, vars(error))


class Interface(unittest.TestCase):

    def test_names_parameters_and_files(self):
        for module, lines in INTERFACE.items():
            found = importlib.import_module(f"partswithin.{module}")
            for line in lines:
                name, names = line[:-1].split("(")
                with self.subTest(line):
                    self.assertEqual(getattr(found, name).__module__, f"partswithin.{module}")
                    parameters = inspect.signature(getattr(found, name)).parameters
                    self.assertEqual(list(parameters), names.split(", ") if names else [])
        for kind, methods in ((Web, "places ties ties_of"), (Priced, "rows places loss border parts"),
                              (Session, "now watched do is_question answer would count deeds undo again at copy trial")):
            for method in methods.split() + ["__eq__"]:
                self.assertIn(method, vars(kind))

    def test_the_whole_document_is_listed(self):
        document = pathlib.Path(__file__).resolve().parents[2] / "shared" / "DOC.md"
        if document.exists():
            rows = re.findall(r"^- `partswithin/(\w+)\.py`: (.*)$", document.read_text(), re.M)
            told = {module: re.findall(r"(?<!session\.)(?<!web\.)(?<!priced\.)\b(\w+\([^)]*\))", line) for module, line in rows}
            self.assertEqual({module: lines for module, lines in told.items() if module != "errors"}, INTERFACE)

    def test_each_by_name_in_another_order_and_by_place(self):
        called = {}
        for module, lines in INTERFACE.items():
            for line in lines:
                name, names = line[:-1].split("(")
                function = getattr(importlib.import_module(f"partswithin.{module}"), name)
                default = {"text": "place a\n"} if names == "text" else {}
                right = TEXTS.get(name) or default or {key: RIGHT_IN.get(name, {}).get(key, RIGHT.get(key))
                                                       for key in names.split(", ") if key}
                told = [called_with(function, list(right.values()), {}),
                        called_with(function, [], dict(list(right.items())[::-1]))]
                with self.subTest(line):
                    self.assertEqual(list(right), names.split(", ") if names else [])
                    self.assertEqual(told[0], told[1])
                    self.assertNotIsInstance(told[0], TypeError)
                called[name] = True
        self.assertEqual(len(called), sum(map(len, INTERFACE.values())))
        for make, name, right in METHODS:
            self.assertEqual(getattr(make(), name)(*right.values()), getattr(make(), name)(**right))


class Passed(unittest.TestCase):

    def test_the_earlier_parameters_error_is_raised(self):
        for function, right, wrong in listed():
            checked = list(wrong)
            for at, name in enumerate(checked):
                things = [wrong[other][0] if other in checked[at:] else right[other] for other in right]
                with self.subTest(function=function.__name__, first=name):
                    self.assertEqual(raised(function, *things), wrong[name][1])

    def test_every_web_and_place_that_is_none(self):
        for function, right, wrong in listed():
            for name, (_, (error, _)) in wrong.items():
                for thing in odd_objects():
                    if error not in (errors.BadWeb, errors.NoPlace) or thing in ("a", "b"):
                        continue
                    if error is errors.BadWeb and isinstance(thing, Web):
                        continue
                    things = [thing if other == name else right[other] for other in right]
                    try:
                        function(*things)
                        self.fail((function.__name__, name, thing))
                    except error as kept:
                        self.assertIs(kept.thing, thing)

    def test_lists_and_tuples_are_alike_and_nothing_is_changed(self):
        for function, right, _ in listed():
            things = list(right.values())
            before = copy.deepcopy([thing for thing in things if thing is not W])
            told = function(*things)
            with self.subTest(function.__name__):
                self.assertEqual([thing for thing in things if thing is not W], before)
                self.assertEqual(function(*[swapped(thing) for thing in things]), told)
                self.assertEqual(function(**right), told)

    def test_what_is_told_is_new_each_time(self):
        for function, right, _ in listed():
            things = list(right.values())
            told = function(*things)
            kept = copy.deepcopy(told)
            with self.subTest(function.__name__):
                found = lists_in(told)
                self.assertEqual(len({id(part) for part in found}), len(found))
                for part in found:
                    part.clear()
                self.assertEqual(function(*things), kept)
                self.assertEqual(W.places(), list("abcde"))

    def test_the_same_answer_each_time(self):
        # equal ones that were made otherwise, with other ones asked between
        for function, right, _ in listed():
            again = {"web": Web(list("ebdca"), [(other, one, height) for one, other, height in W.ties()[::-1]]),
                     "priced": Priced(right.get("priced", NEST).rows()[::-1])}
            told = function(*right.values())
            if list(right) == ["web"]:
                function(R)
            if list(right) == ["priced", "price"]:
                function(Priced(V[:4]), (3, 1))
            with self.subTest(function.__name__):
                self.assertEqual(function(**{**right, **{name: again[name] for name in again if name in right}}), told)

    def test_shades_and_rows_are_not_changed(self):
        from partswithin.nesttexts import priced_text
        from partswithin.pictures import picture_web
        from partswithin.shades import picture_priced
        lots = [["r1c1", "r0c1"], ["r0c0", "r1c1", "r0c1"]]
        before = copy.deepcopy((M, V, lots))
        picture_web(M)
        priced_text(V)
        told = picture_priced(M, lots)
        self.assertEqual((M, V, lots), before)
        self.assertEqual(picture_priced(swapped(M), swapped(lots)), told)
        self.assertEqual(picture_priced(lots=lots, picture=M), told)

    def test_same_place_comes_behind_no_place_and_ahead_of_bad_height(self):
        from partswithin.levels import level, level_lot, level_way
        self.assertEqual(raised(level, W, "c", "c"), (errors.SamePlace, "c"))
        for function in (level_way, level_lot):
            self.assertEqual(raised(function, W, "c", "c", None), (errors.SamePlace, "c"))
            self.assertEqual(raised(function, W, "x", "x", None), (errors.NoPlace, "x"))
            self.assertEqual(raised(function, R, "p", "q", True), (errors.BadHeight, True))

    def test_functions_of_a_web_alone(self):
        for function, right, _ in listed():
            if list(right) == ["web"]:
                self.assertEqual(function(NONE), 1 if function.__name__ == "count_partings" else [])


if __name__ == "__main__":
    unittest.main()
