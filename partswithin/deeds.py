"""Deeds that change a web, or what is asked about it."""

from partswithin.errors import (BadDeed, BadHeight, BadName, BadQuestion, IsWatched, NotWatched, NoTie,
                                SamePlace)
from partswithin.forms import is_integer, is_list, is_name
from partswithin.questions import asks
from partswithin.webs import Web

# how many things stand in a deed, its word counted
LENGTHS = {"place": 2, "leave": 2, "tie": 4, "cut": 3, "watch": 2, "hold": 2, "free": 2}
ASKING = ("watch", "hold", "free")


def need_deed(thing):
    if not is_list(thing) or len(thing) == 0 or not isinstance(thing[0], str):
        raise BadDeed(thing)
    if LENGTHS.get(thing[0]) != len(thing):
        raise BadDeed(thing)


def deed_told(deed):
    """The deed as a tuple, and its question, if there is one."""
    if deed[0] in ASKING:
        return (deed[0], tuple(deed[1]))
    return tuple(deed)


def state_behind(state, deed):
    """The web, and the list of pairs (question, is_held), behind a deed.

    Raises what is wrong of the deed by itself; what it would do to questions is left out.
    """
    need_deed(deed)
    web, asked = state
    if deed[0] in ASKING:
        return (web, asked_behind(web, asked, deed))
    return (web_behind(web, deed), asked)


def web_behind(web, deed):
    word, *told = deed
    if word == "place":
        return with_place(web, told[0])
    need_names(web, told[:2])
    if word == "leave":
        gone = told[0]
        return Web([place for place in web.places() if place != gone],
                   [tie for tie in web.ties() if gone != tie[0] and gone != tie[1]])
    one, other = told[:2]
    if one == other:
        raise SamePlace(other)
    ties = [tie for tie in web.ties() if tie[0] not in (one, other) or tie[1] not in (one, other)]
    if word == "tie":
        if not is_integer(told[2]):
            raise BadHeight(told[2])
        ties.append((one, other, told[2]))
    elif web.height(one, other) is None:
        raise NoTie(one, other)
    return Web(web.places(), ties)


def with_place(web, name):
    if not is_name(name) or web.has_place(name):
        raise BadName(name)
    return Web(web.places() + [name], web.ties())


def need_names(web, names):
    for name in names:
        if not web.has_place(name):
            raise BadName(name)


def asked_behind(web, asked, deed):
    word, thing = deed
    if not asks(web, thing):
        raise BadQuestion(thing)
    question = tuple(thing)
    held = {known: is_held for known, is_held in asked}
    if word == "free":
        if question not in held:
            raise NotWatched(question)
        return [row for row in asked if row[0] != question]
    if question in held and (word == "watch" or held[question]):
        raise IsWatched(question)
    # held in its place, if it is watched
    held[question] = word == "hold"
    return [(known, held[known]) for known in held]
