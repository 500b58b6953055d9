"""Questions about a web, their answers, and what shows that these are so."""

from partswithin.forms import is_list
from partswithin.hollows import hollows
from partswithin.kinds import falls_apart, falls_together, tie_kind
from partswithin.levels import level, level_way, parts
from partswithin.partings import parting_along
from partswithin.whose import hollows_under


def asks(web, thing):
    """Whether any object is a question about the web."""
    if not is_list(thing) or len(thing) == 0:
        return False
    word, *places = thing
    if not all([web.has_place(place) for place in places]):
        return False
    if len(places) < 2:
        return word == "hollows" and len(places) == 0 or word == "under" and len(places) == 1
    if len(places) > 2 or places[0] == places[1]:
        return False
    return word == "level" or word == "stands" and web.height(places[0], places[1]) is not None


def questions_about(web):
    """All questions about the web."""
    places = web.places()
    questions = [("hollows",)] + [("under", place) for place in places]
    for word in ("level", "stands"):
        for one in places:
            questions.extend([(word, one, other) for other in places if asks(web, (word, one, other))])
    return questions


def answer_to(web, question):
    word, *places = question
    if word == "hollows":
        return len(hollows(web))
    if word == "under":
        return len(hollows_under(web, places[0]))
    return level(web, places[0], places[1]) if word == "level" else tie_kind(web, places[0], places[1])


def why_so(web, question, ahead):
    """What shows the answer to a question; where nothing else does the answer ahead, and this one."""
    if question[0] == "level":
        return why_level(web, question[1], question[2])
    if question[0] == "stands":
        rows = [falls_together(web, question[1], question[2]), falls_apart(web, question[1], question[2])]
        together, apart = [None if row is None else parting_along(web, row) for row in rows]
        return (together, apart)
    return (ahead, answer_to(web, question))


def why_level(web, one, other):
    """A way as low as can be, else the lot of all places to which ways lead."""
    height = level(web, one, other)
    if height is not None:
        return level_way(web, one, other, height)
    return [part for part in parts(web) if one in part][0]
