"""Point [80]: texts of sessions."""

import inspect
import itertools
import random
import unittest

from helpers import NONE, W, can_go_on_by, check_errors, first_fault, lines_of, match, mutations, odd_objects, raised
from partswithin.errors import BadSession, BadText
from partswithin.sessions import Session
from partswithin.sessiontexts import read_session, write_session
from partswithin.webs import Web
from partswithin.webtexts import web_text
from test_sessions import Plain, example, is_plain_question, random_deed, session_of
from test_webtexts import plain_read
from test_webtexts import templates as web_templates

AB = "place a\nplace b\ntie a b 1\n"


def plain_session(text):
    """The web and the list of (question, is_held) that a text tells; None if it tells none."""
    lines = lines_of(text)
    if lines is None:
        return None
    firsts = [at for at, line in enumerate(lines) if line.startswith(("watch ", "hold "))]
    many = firsts[0] if firsts else len(lines)
    web = plain_read("".join(line + "\n" for line in lines[:many]))
    asked = []
    for line in lines[many:]:
        found = match("(watch|hold) ([a-z0-9 ]+)", line)
        question = None if web is None or found is None else tuple(found[1].split(" "))
        if question is None or not is_plain_question(web, question) or question in dict(asked):
            return None
        asked.append((question, found[0] == "hold"))
    return None if web is None else (web, asked)


def templates(start):
    """Lines that may come next, each in full."""
    places = [line[6:] for line in start.split("\n")[:-1] if line.startswith("place ")]
    pairs = list(itertools.permutations(places, 2))
    questions = ["hollows"] + [f"under {place}" for place in places]
    questions += [f"{word} {one} {other}" for word in ("level", "stands") for one, other in pairs]
    return web_templates(start) + [f"{word} {question}\n" for word in ("watch", "hold") for question in questions]


def told_by(session):
    return (session.now(), [(question, is_held) for question, _, is_held in session.watched()])


class SessionTexts(unittest.TestCase):

    def test_written(self):
        self.assertEqual(write_session(example()), web_text(W) + "watch under c\nwatch level a e\nhold stands b c\n")
        self.assertEqual(write_session(Session()), "")
        session = example()
        session.do(("hold", ("hollows",)))
        session.do(("hold", ("under", "c")))
        self.assertEqual(write_session(session)[len(web_text(W)):], "hold under c\nwatch level a e\nhold stands b c\nhold hollows\n")

    def test_read_again(self):
        source = random.Random(300)
        for _ in range(25):
            session, plain = Session(), Plain()
            for _ in range(40):
                deed = random_deed(source, plain)
                if raised(session.do, deed) is None:
                    plain = plain.behind(deed)
            text = write_session(session)
            again = read_session(text)
            self.assertTrue(again == session)
            self.assertEqual((told_by(again), again.count(), again.deeds(), again.undo(), again.again()),
                             (told_by(session), 0, [], None, None))
            self.assertEqual((write_session(again), plain_session(text)), (text, told_by(session)))
        self.assertEqual(write_session(read_session("place b\nplace a\ntie b a -3\nhold stands b a\nwatch level b a\n")),
                         "place a\nplace b\ntie a b -3\nhold stands b a\nwatch level b a\n")

    def test_what_is_read_lives_on(self):
        session = read_session(AB + "hold level b a\nwatch hollows\n")
        self.assertEqual(session.watched(), [(("level", "b", "a"), 1, True), (("hollows",), 1, False)])
        self.assertEqual(session.do(("place", "c")), [(("hollows",), 1, 2)])
        self.assertEqual((session.deeds(), session.at(0) == read_session(AB + "hold level b a\nwatch hollows\n")), ([("place", "c")], True))

    def test_the_first_wrong_sign(self):
        for text, fault in [
                ("watch hollows\n", None), ("watch hollows\nhold", (2, 1)), ("watch hollows\nwatch hollows\n", (2, 1)),
                ("hold hollows", (1, 13)), ("hold hollow\n", (1, 12)), ("hold under", (1, 6)), ("watch h", (1, 8)), ("watch ", (1, 7)), ("wa", (1, 3)),
                (AB + "watch under a b\n", (4, 14)), (AB + "watch under a\nplace c\n", (5, 1)), (AB + "watch under a\ntie", (5, 1)),
                (AB + "watch level a a\n", (4, 15)), (AB + "watch level a b\nhold level b a\n", None), (AB + "watch level c", (4, 13)),
                (AB + "watch level a b\nhold level a", (5, 12)), (AB + "watch level  a b\n", (4, 13)), (AB + "watch stands b a\n", None),
                ("place a\nplace b\nwatch stands", (3, 7)), ("place a\nwatch level", (2, 7)), (AB + "watch\n", (4, 6)), (AB + "free hollows\n", (4, 1)),
                (AB + "hold hollows \n", (4, 13)), (AB + "watch under c\n", (4, 13)), (AB + "watch hollows\nwatch hollows\n", (5, 7)),
                (AB + "watch hollows\nwatch un", (5, 9)), (AB + "\nwatch hollows\n", (4, 1)), (AB + "tie", (4, 1)), ("hold hollows\nplace a\n", (2, 1)),
                ("place a\nplace ab\nwatch level a a", (3, 16)), ("place a\nplace ab\nwatch level a ab\nwatch level a a", (4, 14)),
                (AB + "watch under a\nwatch under b\nwatch hollows\nwatch level a b\nwatch level b a\nhold stands a b\nhold stands b a\n", None),
                (AB + "watch under a\nwatch under b\nwatch hollows\nwatch level a b\nwatch level b a\nhold stands a b\nhold stands b a\nh", (11, 1)),
                ("place a", (1, 8)), (AB + "tie a b 2\n", (4, 1)), ("x", (1, 1)), ("", None)]:
            with self.subTest(text):
                self.assertEqual(raised(read_session, text), None if fault is None else (BadText, *fault))

    def test_each_cut(self):
        text = write_session(example())
        for many in range(len(text)):
            told = raised(read_session, text[:many])
            ended = many == 0 or text[many - 1] == "\n"
            self.assertEqual(told, None if ended else (BadText, text[:many].count("\n") + 1, many - text[:many].rfind("\n")))

    def test_by_a_plain_reader(self):
        texts = [write_session(example()), AB + "watch level b a\nhold hollows\n", "place a\nplace ab\nwatch under ab\nwatch level ab a\n",
                 "watch hollows\n", web_text(W), "place hola\nplace l\ntie l hola -10\nhold stands hola l\nwatch under l\nwatch level l hola\n"]
        can_go_on = can_go_on_by(lambda text: plain_session(text) is not None, templates)
        read = 0
        for text in mutations(texts, "ab1 0-\n\nehwltus", 301, 300):
            fault = first_fault(can_go_on, lambda told: plain_session(told) is not None, text)
            self.assertEqual(raised(read_session, text), None if fault is None else (BadText, *fault), text)
            if fault is None:
                read += 1
                self.assertEqual(told_by(read_session(text)), plain_session(text))
        self.assertGreater(read, 30)

    def test_any_object(self):
        check_errors(self, ((write_session, ["session"]),), {}, {"session": (odd_objects() + [W, NONE, "", Session], BadSession)})
        for thing in odd_objects():
            if not isinstance(thing, str):
                self.assertEqual(raised(read_session, thing), (BadText, 0, 0))
        self.assertEqual(list(inspect.signature(read_session).parameters), ["text"])

    def test_eight_places_all_tied(self):
        web = Web(list("abcdefgh"), [(one, other, 3) for one, other in itertools.combinations("abcdefgh", 2)])
        text = write_session(session_of(web)) + "".join(
            f"hold {word} {one} {other}\n" for word in ("level", "stands") for one, other in itertools.permutations("abcdefgh", 2))
        self.assertEqual(write_session(read_session(text)), text)
        self.assertEqual(raised(read_session, text + "hold level"), (BadText, text.count("\n") + 1, 6))


if __name__ == "__main__":
    unittest.main()
