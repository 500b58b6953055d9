"""Points [73] to [79] and [81]: a session, its deeds, what it watches and holds, and how it goes back and on."""

import inspect
import itertools
import random
import unittest

from helpers import NO_INTEGERS, NONE, W, hangs, joined, odd_objects, raised
from partswithin import errors
from partswithin.errors import (BadDeed, BadHeight, BadName, BadQuestion, InUse, IsWatched, NoCount, NotWatched, NoTie,
                                SamePlace, WouldChange)
from partswithin.hollows import hollows
from partswithin.sessions import Session
from partswithin.webs import Web
from plain import partings_by_ridges, under

WHY = (("under", "c"), ("level", "a", "e"), ("stands", "b", "c"))
PLACES = "abcdef"


def session_of(web, *deeds):
    """A session with this web put in, and deeds done behind that."""
    session = Session()
    for place in web.places():
        session.do(("place", place))
    for tie in web.ties():
        session.do(("tie", *tie))
    for deed in deeds:
        session.do(deed)
    return session


def example():
    return session_of(W, ("watch", WHY[0]), ("watch", WHY[1]), ("hold", WHY[2]))


def all_of(session):
    """All that a session tells, also of what can be done again, of which it does none."""
    other = session.copy()
    again = []
    while True:
        deed = other.again()
        if deed is None:
            return (session.now(), session.watched(), session.count(), session.deeds(), again)
        again.append((deed, other.now(), other.watched(), other.deeds()))


def plain_level(web, one, other):
    for height in sorted({height for _, _, height in web.ties()}):
        lots = joined(web.places(), [(low, high) for low, high, own in web.ties() if own <= height])
        if any(one in lot and other in lot for lot in lots):
            return height
    return None


def are_together(lots, one, other):
    return any(one in lot and other in lot for lot in lots)


def plain_answer(web, question):
    word, *places = question
    if word == "hollows":
        return len(hollows(web))
    if word == "level":
        return plain_level(web, *places)
    if word == "under":
        return len(under(web, places[0]))
    kinds = {are_together(lots, *places) for lots in partings_by_ridges(web)}
    return "some" if len(kinds) == 2 else "no" if True in kinds else "every"


def is_plain_question(web, thing):
    """Whether a tuple of strings is a question, by the words of [76]."""
    known = web.places()
    tied = [pair for one, other, _ in web.ties() for pair in ((one, other), (other, one))]
    fits = [("hollows",)] + [("under", place) for place in known]
    fits += [("level", *pair) for pair in itertools.permutations(known, 2)] + [("stands", *pair) for pair in tied]
    return thing in fits


class Plain:
    """A session by the words of [74] and [75]: it tells the error of a deed, or what is behind it."""

    def __init__(self, web=NONE, asked=()):
        self.web, self.asked = web, list(asked)

    def wrong(self, deed):
        word, *told = deed
        heights = {(one, other): height for one, other, height in self.web.ties()}
        names = {"leave": told, "tie": told[:2], "cut": told}.get(word, [])
        if word == "place" and (told[0] not in PLACES or told[0] in self.web.places()):
            return (BadName, told[0])
        for name in names:
            if name not in self.web.places():
                return (BadName, name)
        if word in ("tie", "cut") and told[0] == told[1]:
            return (SamePlace, told[1])
        if word == "tie" and (not isinstance(told[2], int) or isinstance(told[2], bool)):
            return (BadHeight, told[2])
        if word == "cut" and (min(told), max(told)) not in heights:
            return (NoTie, *told)
        if word in ("watch", "hold", "free"):
            if not is_plain_question(self.web, told[0]):
                return (BadQuestion, told[0])
            held = dict(self.asked)
            if word == "free" and told[0] not in held:
                return (NotWatched, told[0])
            if word == "watch" and told[0] in held or word == "hold" and held.get(told[0]):
                return (IsWatched, told[0])
        return None

    def behind(self, deed):
        word, *told = deed
        places, ties, asked = self.web.places(), self.web.ties(), list(self.asked)
        if word == "place":
            places.append(told[0])
        elif word == "leave":
            places.remove(told[0])
            ties = [tie for tie in ties if told[0] not in tie]
        elif word in ("tie", "cut"):
            ties = [tie for tie in ties if {tie[0], tie[1]} != set(told[:2])] + [tuple(told)] * (word == "tie")
        elif word == "free":
            asked = [row for row in asked if row[0] != told[0]]
        elif told[0] in dict(asked):
            asked[[row[0] for row in asked].index(told[0])] = (told[0], True)
        else:
            asked.append((told[0], word == "hold"))
        return Plain(Web(places, ties), asked)

    def in_use(self, behind):
        return next((question for question, _ in self.asked if not is_plain_question(behind.web, question)), None)

    def changes(self, behind):
        rows = [(question, plain_answer(self.web, question), plain_answer(behind.web, question)) for question, _ in self.asked]
        return [row for row in rows if row[1] != row[2]]


def random_deed(source, plain):
    """A deed, mostly one that can be done."""
    known = plain.web.places()
    if not known or len(known) < 4 and source.random() < 0.8:
        return ("place", source.choice(PLACES))
    one, other, odd = source.choice(known), source.choice(known), source.choice(PLACES)
    tied = [tie[:2] for tie in plain.web.ties()] or [("a", "b")]
    questions = [("under", one), ("level", one, other), ("level", odd, one), ("stands", *source.choice(tied)[::-1])] * 2
    questions += [("hollows",)] + [question for question, _ in plain.asked]
    deeds = [("place", odd), ("leave", one), ("leave", odd), ("cut", one, other), ("cut", *source.choice(tied))]
    deeds += [("tie", one, other, source.choice((0, 1, 1, 2, 3))), ("tie", one, source.choice(known), source.randint(0, 3))] * 4
    deeds += [("tie", one, odd, source.choice((0, True))), ("free", source.choice(questions))]
    deeds += [("free", question) for question, is_held in plain.asked if is_held or len(plain.asked) > 4][:2]
    if len(plain.asked) < 6:
        deeds += [("watch", source.choice(questions)), ("watch", source.choice(questions))]
        deeds += [("hold", source.choice([("under", one)] * 4 + [questions[3]] * 3 + [("level", one, other), ("hollows",)]))] * 3
    return source.choice(deeds)


class Sessions(unittest.TestCase):

    def test_the_example(self):
        session = example()
        self.assertEqual(session.now(), W)
        self.assertEqual(session.watched(), [(WHY[0], 2, False), (WHY[1], 2, False), (WHY[2], "some", True)])
        self.assertEqual(raised(session.do, ("tie", "c", "d", 3)), (WouldChange, WHY[2], ([["a", "b", "c"], ["d", "e"]], None)))
        self.assertEqual(session.would(("tie", "c", "d", 3)), [(WHY[0], 2, 1), (WHY[1], 2, 3), (WHY[2], "some", "no")])
        self.assertEqual(session.now(), W)
        self.assertEqual(session.do(("free", WHY[2])), [])
        self.assertEqual(session.do(("tie", "c", "d", 3)), [(WHY[0], 2, 1), (WHY[1], 2, 3)])
        self.assertEqual(raised(session.do, ("leave", "e")), (InUse, WHY[1]))
        self.assertEqual(raised(session.would, ("leave", "e")), (InUse, WHY[1]))

    def test_with_nothing_in_it(self):
        session = Session()
        self.assertEqual((session.now(), session.watched(), session.count(), session.deeds()), (NONE, [], 0, []))
        self.assertEqual((session.undo(), session.again(), session.at(0) == session, session.copy() == session), (None, None, True, True))
        self.assertEqual((session.is_question(("hollows",)), session.answer(["hollows"])), (True, 0))
        self.assertEqual(session.do(["hold", ["hollows"]]), [])
        self.assertEqual(raised(session.do, ("place", "a")), (WouldChange, ("hollows",), (0, 1)))
        self.assertEqual(session.would(("place", "a")), [(("hollows",), 0, 1)])

    def test_each_deed(self):
        session = session_of(W)
        session.do(("tie", "e", "a", -4))
        self.assertEqual(session.now().ties_of("a"), [("b", 1), ("e", -4)])
        session.do(["tie", "b", "a", 9])
        self.assertEqual(session.now().ties_of("a"), [("b", 9), ("e", -4)])
        session.do(("cut", "b", "a"))
        self.assertEqual(session.now().ties_of("a"), [("e", -4)])
        session.do(("leave", "e"))
        self.assertEqual(session.now(), Web(list("abcd"), [("b", "c", 2), ("c", "d", 2)]))
        for deed in (("watch", ("under", "a")), ("watch", ("hollows",)), ("hold", ("level", "b", "d"))):
            session.do(deed)
        session.do(("hold", ("under", "a")))
        self.assertEqual(session.watched(), [(("under", "a"), 1, True), (("hollows",), 2, False), (("level", "b", "d"), 2, True)])
        session.do(("free", ["under", "a"]))
        session.do(("watch", ("under", "a")))
        self.assertEqual([row[0] for row in session.watched()], [("hollows",), ("level", "b", "d"), ("under", "a")])
        self.assertEqual(session.deeds()[-3:], [("hold", ("under", "a")), ("free", ("under", "a")), ("watch", ("under", "a"))])
        self.assertEqual(session.deeds()[10], ("tie", "b", "a", 9))

    def test_equal(self):
        one, other = example(), session_of(Web(list("edcba"), [(other, one, height) for one, other, height in W.ties()]))
        self.assertNotEqual(one, other)
        for deed in (("watch", WHY[0]), ("hold", WHY[1]), ("free", WHY[1]), ("watch", WHY[1]), ("watch", WHY[2])):
            other.do(deed)
            self.assertFalse(one == other)
        other.do(("hold", WHY[2]))
        self.assertTrue(one == other)
        # deeds that were done otherwise do not count, the order of what is watched does
        self.assertNotEqual(one.count(), other.count())
        other.do(("free", WHY[0]))
        other.do(("watch", WHY[0]))
        self.assertFalse(one == other)
        for thing in odd_objects() + [W, one.now(), all_of(one)]:
            self.assertFalse(one == thing)
            self.assertTrue(one != thing)

    def test_any_object_as_a_question(self):
        session = example()
        right = [("hollows",), ["hollows"], ("level", "e", "a"), ["level", "a", "b"], ("stands", "c", "b"), ("under", "e")]
        wrong = [("level", "a", "a"), ("stands", "a", "c"), ("stands", "a", "a"), ("under",), ("under", "f"), ("hollows", "a"),
                 ("level", "a"), ("level", "a", "b", "c"), ("under", ["a"]), ("level", "a", None), "hollows", ("hollow",),
                 (("hollows",),), ("stands", "b"), ("under", "a", "b"), (W,), ("level", "f", "a"), [["level"], "a", "b"]]
        for thing in right:
            self.assertIs(session.is_question(thing), True, thing)
            self.assertEqual(session.answer(thing), plain_answer(W, thing))
        for thing in wrong + odd_objects():
            self.assertIs(session.is_question(thing), False, thing)
            for call in (session.answer, lambda told: session.do(("watch", told)), lambda told: session.do(["hold", told]),
                         lambda told: session.would(("free", told))):
                try:
                    call(thing)
                    self.fail(thing)
                except BadQuestion as error:
                    self.assertIs(error.thing, thing)
        self.assertEqual(session.watched(), example().watched())

    def test_any_object_as_a_deed(self):
        session = example()
        wrong = [("place",), ("place", "x", "y"), ("leave",), ("tie", "a", "b"), ("tie", "a", "b", 1, 1), ("cut", "a"), ("cut", "a", "b", "c"),
                 ("watch",), ("hold", WHY[0], 1), ("free",), ("Place", "x"), ("do", "x"), (["place"], "x"), (None, "x"), ("", "x"),
                 "place", ("hollows",), ("undo",), (True, "x"), ("watched", WHY[0]), ({}, "x"), ((), "x"), ((["a"],), "x")]
        for thing in wrong + odd_objects():
            for call in (session.do, session.would):
                try:
                    call(thing)
                    self.fail(thing)
                except BadDeed as error:
                    self.assertIs(error.thing, thing)

    def test_any_object_as_a_part(self):
        session = example()
        for call in (session.do, session.would):
            for thing in odd_objects() + ["a", "place", "watch", "x y", "1a", ["x"], ("x",)]:
                for deed in (("place", thing), ("leave", thing), ("tie", thing, "a", 1), ("tie", "a", thing, None), ("tie", thing, thing, 1),
                             ("cut", thing, None), ("cut", "a", thing), ("tie", thing, "q", 1)):
                    if deed[0] != "place" and thing in ("a", "b") or deed == ("place", "zz"):
                        continue
                    try:
                        call(deed)
                        self.fail(deed)
                    except BadName as error:
                        self.assertIs(error.thing, thing)
            for thing in NO_INTEGERS:
                try:
                    call(("tie", "a", "c", thing))
                    self.fail(thing)
                except BadHeight as error:
                    self.assertIs(error.thing, thing)

    def test_errors_in_order(self):
        session = example()
        for deed, right in ((("tie", "x", "x", None), (BadName, "x")), (("tie", "a", "x", None), (BadName, "x")),
                            (("tie", "a", "a", None), (SamePlace, "a")), (("cut", "c", "c"), (SamePlace, "c")), (("cut", "c", "a"), (NoTie, "c", "a")),
                            (("tie", "b", "a", "1"), (BadHeight, "1")), (("cut", "y", "x"), (BadName, "y")), (("watch", WHY[0]), (IsWatched, WHY[0])),
                            (("watch", list(WHY[2])), (IsWatched, WHY[2])), (["hold", list(WHY[2])], (IsWatched, WHY[2])),
                            (("free", ["hollows"]), (NotWatched, ("hollows",))), (("free", ("under", "q")), (BadQuestion, ("under", "q"))),
                            (("leave", "c"), (InUse, WHY[0])), (("leave", "b"), (InUse, WHY[2])), (("cut", "c", "b"), (InUse, WHY[2])),
                            (("tie", "b", "c", 5), (WouldChange, WHY[2], None))):
            told = raised(session.do, deed)
            self.assertEqual(told[:len(right) - (right[-1] is None)], right[:-1] if right[-1] is None else right)
            if right[0] is not WouldChange:
                self.assertEqual(raised(session.would, deed), told)
            self.assertTrue(all(isinstance(thing, tuple) for thing in told[1:2] if right[0] in (IsWatched, NotWatched, InUse)))
            self.assertEqual(all_of(session), all_of(example()))

    def test_in_use_comes_ahead_of_would_change(self):
        session = session_of(W, ("hold", ("hollows",)), ("hold", ("level", "a", "e")), ("watch", ("under", "e")))
        self.assertEqual(raised(session.do, ("leave", "e")), (InUse, ("level", "a", "e")))
        session = session_of(W, ("hold", ("level", "a", "e")), ("hold", ("hollows",)), ("watch", ("stands", "c", "d")))
        self.assertEqual(raised(session.do, ("cut", "c", "d")), (InUse, ("stands", "c", "d")))
        session.do(("free", ("stands", "c", "d")))
        self.assertEqual(raised(session.do, ("cut", "c", "d")), (WouldChange, ("level", "a", "e"), ["a", "b", "c"]))

    def test_why(self):
        session = session_of(W, ("hold", ("level", "e", "a")), ("hold", ("stands", "d", "c")), ("hold", ("under", "c")))
        self.assertEqual(raised(session.do, ("tie", "c", "b", 7)), (WouldChange, ("level", "e", "a"), list("edcba")))
        session = session_of(W, ("hold", ("stands", "d", "c")), ("hold", ("under", "c")))
        self.assertEqual(raised(session.do, ("tie", "b", "c", 1)), (WouldChange, ("stands", "d", "c"), (None, [["a", "b", "c"], ["d", "e"]])))
        session = session_of(W, ("hold", ("under", "c")), ("hold", ("hollows",)))
        self.assertEqual(raised(session.do, ("tie", "c", "d", 1)), (WouldChange, ("under", "c"), (2, 1)))
        # the part of e is not the first one
        session = session_of(W, ("hold", ("level", "e", "a")))
        self.assertEqual(raised(session.do, ("cut", "c", "d")), (WouldChange, ("level", "e", "a"), ["d", "e"]))
        # from "every" to "some": both partings are shown
        web = Web(list("abcd"), [("a", "b", 1), ("c", "d", 1), ("b", "c", 2)])
        session = session_of(web, ("place", "e"), ("tie", "e", "b", 3), ("tie", "e", "c", 4), ("hold", ("stands", "c", "e")))
        self.assertEqual(session.answer(("stands", "c", "e")), "every")
        self.assertEqual(raised(session.do, ("tie", "e", "c", 3)), (WouldChange, ("stands", "c", "e"),
                                                                    ([["a", "b"], ["c", "d", "e"]], [["a", "b", "e"], ["c", "d"]])))

    def test_against_plain_sessions(self):
        source = random.Random(290)
        seen = {}
        for _ in range(60):
            session, plain = Session(), Plain()
            for _ in range(60):
                deed = random_deed(source, plain)
                told = self.step(session, plain, deed)
                word = bool(told) if isinstance(told, list) else told[1][0] if told[0] is WouldChange else told[0]
                seen[word] = seen.get(word, 0) + 1
                if not isinstance(told, tuple):
                    plain = plain.behind(deed)
                self.assertEqual(session.now(), plain.web)
                self.assertEqual(session.watched(), [(question, plain_answer(plain.web, question), is_held)
                                                     for question, is_held in plain.asked])
        self.assertEqual(set(seen), {True, False, BadName, SamePlace, BadHeight, NoTie, BadQuestion, IsWatched, NotWatched, InUse,
                                     "hollows", "level", "stands", "under"})

    def step(self, session, plain, deed):
        """Does a deed; the error as a tuple, or the list of what changed."""
        ahead = all_of(session)
        wrong = plain.wrong(deed)
        behind = plain.behind(deed) if wrong is None else None
        if wrong is None and plain.in_use(behind) is not None:
            wrong = (InUse, plain.in_use(behind))
        changes = plain.changes(behind) if wrong is None else None
        would = raised(session.would, deed)
        self.assertEqual(would, wrong)
        if wrong is None:
            self.assertEqual(session.would(list(deed)), changes)
        self.assertEqual(all_of(session), ahead)
        held = [question for question, _, _ in changes or [] if dict(plain.asked)[question]]
        if wrong is None and held == []:
            self.assertEqual(session.do(deed), changes)
            self.assertEqual(session.deeds(), ahead[3] + [deed])
            return changes
        told = raised(session.do, deed)
        self.assertEqual(all_of(session), ahead)
        if wrong is None:
            self.assertEqual(told[:2], (WouldChange, held[0]))
            self.check_why(plain.web, behind.web, held[0], told[2])
            wrong = told
        self.assertEqual(told, wrong)
        return told

    def check_why(self, ahead, behind, question, why):
        word, *places = question
        if word not in ("level", "stands"):
            self.assertEqual(why, (plain_answer(ahead, question), plain_answer(behind, question)))
        elif word == "level" and plain_level(behind, *places) is None:
            self.assertEqual(why, [lot for lot in joined(behind.places(), [tie[:2] for tie in behind.ties()]) if places[0] in lot][0])
        elif word == "level":
            own = {pair: height for one, other, height in behind.ties() for pair in ((one, other), (other, one))}
            self.assertEqual((why[0], why[-1], len(set(why))), (*places, len(why)))
            self.assertLessEqual(max(own[pair] for pair in zip(why, why[1:])), plain_level(behind, *places))
        else:
            known = partings_by_ridges(behind)
            for lots, right in zip(why, ([lots for lots in known if are_together(lots, *places)],
                                         [lots for lots in known if not are_together(lots, *places)])):
                self.assertTrue(lots in right if right else lots is None)

    def test_it_holds(self):
        source = random.Random(291)
        for _ in range(150):
            places = list("abcde"[:source.randint(2, 5)])
            web = Web(places, [(one, other, source.randint(0, 3)) for one, other in itertools.combinations(places, 2) if source.random() < 0.5])
            session = session_of(web, ("watch", ("hollows",)))
            levels = [("level", one, other) for one, other in itertools.combinations(places, 2)]
            ahead = [session.answer(question) for question in levels]
            self.assertEqual(session.would(("place", "z")), [(("hollows",), len(hollows(web)), len(hollows(web)) + 1)])
            one, other = source.sample(places, 2)
            height = dict(web.ties_of(one)).get(other)
            number = source.randint(-1, 4)
            session.do(("tie", one, other, number) if height is None or source.random() < 0.7 else ("cut", one, other))
            lower = dict(session.now().ties_of(one)).get(other)
            rises = height is not None and (lower is None or lower > height)
            for was, now in zip(ahead, [session.answer(question) for question in levels]):
                was, now = [10 ** 9 if level is None else level for level in (was, now)]
                self.assertTrue(was <= now if rises else was >= now)

    def test_names_of_parameters(self):
        for name, names in {"do": ["deed"], "is_question": ["thing"], "answer": ["question"], "would": ["deed"], "at": ["number"],
                            "trial": ["work"], "now": [], "watched": [], "count": [], "deeds": [], "undo": [], "again": [],
                            "copy": []}.items():
            self.assertIn(name, vars(Session))
            self.assertEqual(list(inspect.signature(vars(Session)[name]).parameters), ["self"] + names)
        self.assertIn("__eq__", vars(Session))
        self.assertRaises(TypeError, Session, [])


class BackAndOn(unittest.TestCase):

    def test_undo_and_again(self):
        session = example()
        states = [all_of(session)]
        deeds = []
        while session.count() > 0:
            deeds.append(session.undo())
            states.append(all_of(session))
        self.assertEqual((session.undo(), session.now(), len(deeds)), (None, NONE, 12))
        self.assertEqual(deeds[::-1], states[0][3])
        for state, deed in zip(states[-2::-1], deeds[::-1]):
            self.assertEqual(session.again(), deed)
            self.assertEqual(all_of(session), state)
        self.assertEqual((session.again(), session == example()), (None, True))

    def test_a_new_deed_ends_what_can_be_done_again(self):
        session = example()
        session.undo()
        self.assertEqual(raised(session.do, ("tie", "a", "a", 1)), (SamePlace, "a"))
        session.would(("place", "z"))
        self.assertEqual(session.again(), ("hold", WHY[2]))
        session.undo()
        session.do(("place", "z"))
        self.assertIsNone(session.again())
        self.assertEqual(session.deeds()[-2:], [("watch", WHY[1]), ("place", "z")])
        self.assertEqual(session.now().places(), list("abcdez"))
        self.assertEqual([row[0] for row in session.watched()], [WHY[0], WHY[1]])
        session.undo()
        session.undo()
        session.do(("leave", "d"))
        self.assertEqual((session.now().places(), session.undo(), session.undo()), (list("abce"), ("leave", "d"), ("watch", WHY[0])))
        self.assertEqual((session.now(), session.again(), session.again(), session.again()), (W, ("watch", WHY[0]), ("leave", "d"), None))

    def test_back_and_on_whatever_is_held(self):
        session = session_of(Web(list("ab"), []), ("tie", "a", "b", 1), ("hold", ("level", "a", "b")))
        self.assertEqual(raised(session.do, ("cut", "a", "b")), (WouldChange, ("level", "a", "b"), ["a"]))
        self.assertEqual([session.undo() for _ in range(3)], [("hold", ("level", "a", "b")), ("tie", "a", "b", 1), ("place", "b")])
        self.assertEqual(session.watched(), [])
        self.assertEqual([session.again() for _ in range(3)][::-1], [("hold", ("level", "a", "b")), ("tie", "a", "b", 1), ("place", "b")])
        self.assertEqual(session.watched(), [(("level", "a", "b"), 1, True)])

    def test_at(self):
        session = example()
        states = [session.at(number) for number in range(13)]
        back = session.copy()
        for number in range(12, -1, -1):
            state = states[number]
            self.assertEqual((state.count(), state.deeds(), state.now(), state.watched(), state.again()),
                             (number, session.deeds()[:number], back.now(), back.watched(), None))
            self.assertTrue(state == back)
            back.undo()
        for thing in NO_INTEGERS + [-1, 13, 10 ** 30, "0", (0,)]:
            try:
                session.at(thing)
                self.fail(thing)
            except NoCount as error:
                self.assertIs(error.thing, thing)
        session.undo()
        self.assertEqual(raised(session.at, 12), (NoCount, 12))
        self.assertIsNone(session.at(11).again())
        self.assertEqual(session.again(), ("hold", WHY[2]))

    def test_copies_and_former_states_go_on_by_themselves(self):
        session = example()
        session.undo()
        kept = all_of(session)
        other, former = session.copy(), session.at(5)
        self.assertEqual(all_of(other), kept)
        other.again()
        other.do(("free", WHY[0]))
        former.do(("place", "z"))
        former.undo()
        former.undo()
        self.assertEqual(all_of(session), kept)
        session.do(("free", WHY[1]))
        self.assertEqual([row[0] for row in other.watched()], [WHY[1], WHY[2]])
        self.assertEqual((former.count(), former.again()), (4, ("place", "e")))

    def test_trials(self):
        session = example()
        session.undo()
        ahead = all_of(session)

        def work(told):
            self.assertIs(told, session)
            told.do(("place", "z"))
            told.undo()
            told.undo()
            inner = all_of(told)
            self.assertEqual(told.trial(lambda again: again.do(("tie", "a", "e", 0))), [(WHY[0], 2, 1)])
            self.assertEqual(all_of(told), inner)
            return [told.count()]

        self.assertEqual(session.trial(work), [10])
        self.assertEqual(all_of(session), ahead)
        self.assertIsNone(session.trial(lambda told: None))

    def test_trials_within_one_another(self):
        session = example()

        def work(depth):
            def deeper(told):
                told.do(("place", f"z{depth}"))
                if depth < 6:
                    told.trial(work(depth + 1))
                self.assertEqual(len(told.now().places()), 5 + depth)
                return depth
            return deeper

        self.assertEqual(session.trial(work(1)), 1)
        self.assertEqual(all_of(session), all_of(example()))

    def test_trials_that_raise(self):
        session = example()
        session.undo()
        ahead = all_of(session)

        class Odd(Exception):
            pass

        for kind in (Odd, errors.BadDeed, KeyError):
            made = kind("x")

            def work(told):
                told.do(("place", "z"))
                while told.undo() is not None:
                    pass
                told.do(("place", "q"))
                raise made

            try:
                session.trial(work)
                self.fail(kind)
            except kind as error:
                self.assertIs(error, made)
            self.assertEqual(all_of(session), ahead)
        self.assertEqual(raised(session.trial, lambda told: told.do(("place", "a"))), (BadName, "a"))
        self.assertEqual(all_of(session), ahead)

    def test_what_is_told_is_new_and_what_is_passed_is_copied(self):
        session = example()
        kept = all_of(session)
        session.watched().clear()
        session.deeds().clear()
        session.now().places().clear()
        session.copy().do(("place", "z"))
        question = ["level", "b", "e"]
        deed = ["watch", question]
        session.do(deed)
        question[1] = "z"
        deed[0] = "free"
        self.assertEqual((session.undo(), all_of(session)[:4]), (("watch", ("level", "b", "e")), kept[:4]))
        self.assertEqual(session.again(), ("watch", ("level", "b", "e")))
        told = session.would(("tie", "a", "e", 0))
        self.assertEqual(told[0], (WHY[0], 2, 1))
        told.clear()
        self.assertEqual(session.would(("tie", "a", "e", 0))[0], (WHY[0], 2, 1))

    def test_many_deeds(self):
        source = random.Random(292)
        session, plain = Session(), Plain()
        states = [(session.now(), session.watched())]
        while session.count() < 50:
            deed = random_deed(source, plain)
            if raised(session.do, deed) is None:
                plain = plain.behind(deed)
                states.append((session.now(), session.watched()))
        for number, state in enumerate(states):
            self.assertEqual((session.at(number).now(), session.at(number).watched()), state)
        for number in range(49, 20, -1):
            session.undo()
            self.assertEqual((session.now(), session.watched()), states[number])
        self.assertTrue(all(hangs(state[0], lot) for state in states for lot in hollows(state[0])))


if __name__ == "__main__":
    unittest.main()
