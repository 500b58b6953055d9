"""Texts of sessions, written and read."""

from partswithin.errors import BadSession
from partswithin.questions import questions_about
from partswithin.sessions import Session, session_of
from partswithin.signs import Signs
from partswithin.weblines import WebLines
from partswithin.webtexts import web_text

WATCHING = ("watch ", "hold ")


def write_session(session):
    if not isinstance(session, Session):
        raise BadSession(session)
    lines = [("hold " if is_held else "watch ") + question_line(question)
             for question, _, is_held in session.watched()]
    return web_text(session.now()) + "".join(lines)


def question_line(question):
    return " ".join(question) + "\n"


def read_session(text):
    signs = Signs(text)
    lines = WebLines()
    asked = []
    left = {}
    words = lines.words() + list(WATCHING)
    while not signs.ended():
        word = signs.one_of(words)
        if word not in WATCHING:
            lines.read_rest(signs, word)
            words = lines.words() + list(WATCHING)
            continue
        if len(asked) == 0:
            # no place and no tie comes behind the first question
            left = {question_line(question): question for question in questions_about(lines.web())}
        question = left.pop(signs.one_of(list(left)))
        asked.append((question, word == "hold "))
        words = list(WATCHING) if len(left) > 0 else []
    return session_of([(lines.web(), asked)], [], 0)
