"""Points [62] and [65]: audits of what partings by ridges are shown by."""

import inspect
import itertools
import random
import unittest

from helpers import W, hangs, is_tied, joined, mutations, odd_objects, small_webs, subsets
from partswithin.forests import exchange
from partswithin.hollows import hollows
from partswithin.lottexts import lots_fault, lots_text, ties_fault, ties_text
from partswithin.ridgeaudits import audit_ridges
from partswithin.ridges import forest_of
from partswithin.webs import Web
from partswithin.webtexts import read_web, web_fault, web_text
from plain import forests, heights_of, lots_of, partings_by_ridges, sharings

TEXT = web_text(W)
LOTS = "lot a, b, c\nlot d, e\n"
# two hollows a b and c d; e falls to b over 3, not over 5
HILLS = Web(list("abcde"), [("a", "b", 1), ("c", "d", 1), ("b", "e", 3), ("a", "e", 5), ("d", "e", 4)])


def plain_audit(web_told, lots_told, ties_told):
    """The audit by the words of [62], line by line."""
    for which, fault in (("web", web_fault(web_told)), ("lots", lots_fault(lots_told)), ("ties", ties_fault(ties_told))):
        if fault is not None:
            return (which, *fault, "form")
    web = read_web(web_told)
    pits = hollows(web)
    lots = []
    for number, line in enumerate(lots_told.splitlines(), 1):
        lot = line[4:].split(", ")
        strange = [name for name in lot if name not in web.places()]
        if strange:
            return ("lots", number, line.index(", " + strange[0]) + 3 if strange[0] != lot[0] else 5, "who")
        if not hangs(web, lot):
            return ("lots", number, 1, "apart")
        touched = [pit for pit in pits if set(pit) & set(lot)]
        if len(touched) != 1 or not set(touched[0]) <= set(lot):
            return ("lots", number, 1, "hollows")
        lots.append(lot)
    if sum(map(len, lots)) < len(web.places()):
        return ("lots", len(lots) + 1, 1, "lacks")
    ties = []
    for number, line in enumerate(ties_told.splitlines(), 1):
        one, other = line.split()[1:]
        if one not in web.places():
            return ("ties", number, 5, "who")
        if other not in web.places():
            return ("ties", number, 6 + len(one), "who")
        within = [(pit[0], place) for pit in pits for place in pit]
        why = None
        if not is_tied(web, one, other):
            why = "tie"
        elif any(one in pit and other in pit for pit in pits):
            why = "within"
        elif not any(one in lot and other in lot for lot in lots):
            why = "out"
        elif any(one in lot and other in lot for lot in joined(web.places(), within + ties)):
            why = "ring"
        if why:
            return ("ties", number, 1, why)
        ties.append((one, other))
    if joined(web.places(), within + ties if ties else [(pit[0], place) for pit in pits for place in pit]) != sorted(
            sorted(lot) for lot in lots):
        return ("ties", len(ties) + 1, 1, "lacks")
    own = heights_of(web)
    least = min(sum(own[tie] for tie in forest) for forest, _ in forests(web, pits))
    return ("ties", len(ties) + 1, 1, "less") if sum(own[tie] for tie in ties) > least else None


class RidgeAudits(unittest.TestCase):

    def test_the_examples(self):
        for lots, ties, told in ((LOTS, "tie b c\n", None), (LOTS, "tie c d\n", ("ties", 1, 1, "out")),
                                 (LOTS, "tie a b\n", ("ties", 1, 1, "within")), (LOTS, "", ("ties", 1, 1, "lacks")),
                                 ("lot a, b\nlot c, d, e\n", "tie b c\n", ("ties", 1, 1, "out")),
                                 ("lot a\nlot b, c, d, e\n", "", ("lots", 1, 1, "hollows"))):
            self.assertEqual(audit_ridges(TEXT, lots, ties), told)

    def test_each_word(self):
        text = web_text(HILLS)
        lots = "lot b, e, a\nlot c, d\n"
        for told_lots, ties, told in ((lots, "tie e b\n", None), (lots, "tie a e\n", ("ties", 2, 1, "less")),
                                      (lots, "tie b e\ntie a e\n", ("ties", 2, 1, "ring")), (lots, "", ("ties", 1, 1, "lacks")),
                                      (lots, "tie b c\n", ("ties", 1, 1, "tie")), (lots, "tie b e\ntie a zz\n", ("ties", 2, 7, "who")),
                                      (lots, "tie zz a\n", ("ties", 1, 5, "who")), (lots, "tie d c\n", ("ties", 1, 1, "within")),
                                      (lots, "tie e d\n", ("ties", 1, 1, "out")), ("lot a, b, e\n", "", ("lots", 2, 1, "lacks")),
                                      ("lot a, b, yy\n", "", ("lots", 1, 11, "who")), ("lot c, a\nlot z\n", "", ("lots", 1, 1, "apart")),
                                      ("lot e\n", "", ("lots", 1, 1, "hollows")), ("lot a, b, c, d, e\n", "", ("lots", 1, 1, "hollows")),
                                      ("lot a, b\nlot e, d\n", "", ("lots", 2, 1, "hollows")), ("", "", ("lots", 1, 1, "lacks")),
                                      ("lot c, d\nlot e, b, a, x1\n", "", ("lots", 2, 14, "who"))):
            self.assertEqual(audit_ridges(text, told_lots, ties), told)

    def test_texts_without_form_come_first_in_their_order(self):
        self.assertEqual(audit_ridges("", "", ""), None)
        self.assertEqual(audit_ridges("place a", "lot", "tie"), ("web", 1, 8, "form"))
        self.assertEqual(audit_ridges(TEXT, "lot z\nlot z\n", "tie"), ("lots", 2, 6, "form"))
        self.assertEqual(audit_ridges(TEXT, "lot z\n", "tie b c\ntie c b\n"), ("ties", 2, 8, "form"))
        for thing in odd_objects():
            if not isinstance(thing, str):
                self.assertEqual(audit_ridges(thing, thing, thing), ("web", 0, 0, "form"))
                self.assertEqual(audit_ridges(TEXT, thing, thing), ("lots", 0, 0, "form"))
                self.assertEqual(audit_ridges(TEXT, LOTS, thing), ("ties", 0, 0, "form"))
            elif thing != "":
                self.assertEqual(audit_ridges(thing, "", "")[3], "form")

    def test_lines_and_names_in_whatever_order(self):
        for lots in itertools.permutations(["lot b, c, a\n", "lot e, d\n"]):
            self.assertIsNone(audit_ridges(TEXT, "".join(lots), "tie c b\n"))
        self.assertEqual(audit_ridges(TEXT, "lot d, e\nlot q, c\nlot a\n", "tie c b\n"), ("lots", 2, 5, "who"))

    def test_forests_of_partings_by_ridges_are_let_by_and_nothing_else(self):
        let_by = 0
        source = random.Random(240)
        for web in small_webs(240, 30, 5):
            ridged = partings_by_ridges(web)
            pits = hollows(web)
            found = [(sum(heights_of(web)[tie] for tie in forest), sorted(forest), lots_of(point))
                     for forest, point in forests(web, pits)]
            least = min(found)[0]
            for lots in ridged:
                self.assertIsNone(audit_ridges(web_text(web), lots_text(lots), ties_text(forest_of(web, lots))))
            for lots in sharings(web.places()):
                every = subsets([(one, other) for one, other, _ in web.ties()])
                for ties in source.sample(every, min(len(every), 12)) + [forest for _, forest, _ in found[:3]]:
                    right = (least, ties, lots) in found
                    told = audit_ridges(web_text(web), lots_text(lots), ties_text(ties))
                    self.assertEqual(told is None, right)
                    self.assertTrue(told is not None or lots in ridged and exchange(web, pits, ties) is None)
                    let_by += right
        self.assertGreater(let_by, 30)

    def test_changed_texts(self):
        source = random.Random(241)
        words = {}
        for web in [web for web in small_webs(242, 70, 5) if web.places()]:
            lots = source.choice(partings_by_ridges(web))
            ties = ties_text(forest_of(web, lots))
            turned = source.sample([source.sample(lot, len(lot)) for lot in lots], len(lots))
            lots = "".join(f"lot {', '.join(lot)}\n" for lot in turned)
            more = [f"tie {one} {other}\n" for one, other in itertools.combinations(web.places(), 2)] + ["tie a zz\n"]
            for text in list(mutations([lots], "abcde, \n", source.random(), 20)) + [lots + "lot z\n", lots[:len(lots) // 2]]:
                for ties_told in (ties, source.choice(more) + ties, ties + source.choice(more), "".join(ties.splitlines(True)[1:]),
                                  "".join(source.sample(more, 1))):
                    told = audit_ridges(web_text(web), text, ties_told)
                    self.assertEqual(told, plain_audit(web_text(web), text, ties_told), (text, ties_told, web.ties()))
                    words[told and told[3]] = words.get(told and told[3], 0) + 1
            others = [lots_text(other) for other in source.sample(sharings(web.places()), min(len(web.places()), 4))]
            for text, ties_told in itertools.product([lots] + others, [ties, source.choice(more) + ties, ties + more[0]]):
                told = audit_ridges(web_text(web), text, ties_told)
                self.assertEqual(told, plain_audit(web_text(web), text, ties_told))
                words[told and told[3]] = words.get(told and told[3], 0) + 1
        self.assertEqual(set(words), {None, "form", "who", "apart", "hollows", "lacks", "tie", "within", "out", "ring", "less"})

    def test_two_hundred_places(self):
        places = [f"p{number:03d}" for number in range(200)]
        web = Web(places, [(one, other, at * 7 % 31) for at, (one, other) in enumerate(zip(places, places[1:]))]
                  + [(one, other, 40 + at % 9) for at, (one, other) in enumerate(zip(places, places[2:]))])
        from partswithin.ridges import by_ridges
        lots = by_ridges(web)
        ties = ties_text(forest_of(web, lots))
        self.assertIsNone(audit_ridges(web_text(web), lots_text(lots), ties))
        many = ties.count("\n")
        self.assertEqual(audit_ridges(web_text(web), lots_text(lots), ties[:ties.rindex("tie")]), ("ties", many, 1, "lacks"))

    def test_names_of_parameters(self):
        self.assertEqual(list(inspect.signature(audit_ridges).parameters), ["web_text", "lots_text", "ties_text"])


if __name__ == "__main__":
    unittest.main()
