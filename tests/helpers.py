"""What several tests need: the document's examples, odd objects, small webs, plain readers."""

import inspect
import itertools
import random
import re

from partswithin.errors import BadText, PartsError
from partswithin.webs import Web

W = Web(list("abcde"), [("a", "b", 1), ("b", "c", 2), ("c", "d", 2), ("d", "e", 1)])
R = Web(list("pqrst"), [("p", "q", 1), ("q", "r", 4), ("r", "s", 2), ("s", "t", 5), ("p", "t", 3)])
M = [[0, 1, 5], [0, 2, 6]]
V = [(["a"], 0, 2), (["b"], 0, 2), (["c"], 0, 3), (["d"], 0, 3), (["a", "b"], 2, 2),
     (["c", "d"], 6, 3), (["a", "b", "c", "d"], 20, 0)]
NONE = Web([], [])
BARRED = ["place", "tie", "lot", "at", "loss", "border", "price", "join", "part", "fall",
          "drop", "mark", "watch", "hold"]
# no integer but by a chance of Python's: truths
NO_INTEGERS = [True, False, None, "1", "", [], (), [1], {}, {1: 1}, lambda: 1, NONE, PartsError()]


def a_function():
    return "a"


def odd_objects():
    """Objects of every kind that may be passed as any object, new ones each time."""
    return [0, 1, -1, 10 ** 30, True, False, None, "", "a", "b", "zz", "A", "tie", "abcdefghi", "\n",
            [], (), [[]], [()], ((),), [None], [0], [True], [{}], [a_function], [NONE], ["a"], ("a",),
            [["a"]], [["a", "b"]], [("a", "b", 1)], [("a", "b")], [["a", []]], [["a", {}]],
            [[["a"], 1]], [[["a"], {}, []]], [[[]]], [[{"a": 1}]], ["ab"], [["a"], "b"], {},
            {"a": 1}, {"a": []}, {1: {}}, {("a", "b"): 1}, a_function, lambda: None, NONE, W,
            PartsError(), BadText(1, 2), [W], [[W, W]], [(W, W, 1)], [[["b"], ["a"]]],
            ("form",), [["a", "a"]], [[[["a"]]]], ["a", "a"], [[None, None, None]], [1, [2, [3]]]]


def not_webs():
    return [thing for thing in odd_objects() if not isinstance(thing, Web)]


def raised(function, *things):
    """The error that a call raises, as its class and what it keeps; None if there is none."""
    try:
        function(*things)
    except PartsError as error:
        return (error.__class__, *vars(error).values())
    return None


def small_webs(seed, many, most_places=5, least=-1, most=2, chance=0.6):
    """Webs of few places and few unlike heights, the same ones each time."""
    source = random.Random(seed)
    webs = []
    for _ in range(many):
        places = list("abcdefgh"[:source.randint(0, most_places)])
        ties = [(one, other, source.randint(least, most))
                for one, other in itertools.combinations(places, 2) if source.random() < chance]
        webs.append(Web(places, ties))
    return webs


def subsets(things, least=0):
    return [list(chosen) for many in range(least, len(things) + 1)
            for chosen in itertools.combinations(things, many)]


def joined(places, pairs):
    """The lots that pairs join, plainly, as sorted lists."""
    lots = [[place] for place in places]
    for one, other in pairs:
        first = [lot for lot in lots if one in lot][0]
        second = [lot for lot in lots if other in lot][0]
        if first is not second:
            lots = [lot for lot in lots if lot is not first and lot is not second]
            lots.append(first + second)
    return sorted(sorted(lot) for lot in lots)


def hangs(web, lot):
    """Whether a lot hangs together, plainly."""
    pairs = [(one, other) for one, other, _ in web.ties() if one in lot and other in lot]
    return len(joined(lot, pairs)) == 1


def height_of(web, one, other):
    return {(low, high): height for low, high, height in web.ties()}[min(one, other), max(one, other)]


def is_tied(web, one, other):
    return any({one, other} == {low, high} for low, high, _ in web.ties())


NAME = "[a-z][a-z0-9]{0,7}"
NUMBER = "(?:0|[1-9][0-9]{0,15})"
INTEGER = "(?:0|-?[1-9][0-9]{0,15})"
FRACTION = f"{NUMBER}(?:/{NUMBER})?"
LOT = f"{NAME}(?:, {NAME})*"


def lines_of(text):
    """The lines of a text without their line feeds; None if one lacks its own."""
    if text != "" and not text.endswith("\n"):
        return None
    return text.split("\n")[:-1]


def match(pattern, line):
    """The groups of a whole line, None if it does not match."""
    found = re.fullmatch(pattern, line)
    return None if found is None else found.groups()


def first_fault(can_go_on, reads, text):
    """A text's first wrong sign by two plain functions: can a beginning go on, is a text read."""
    if reads(text):
        return None
    for many in range(1, len(text) + 1):
        if not can_go_on(text[:many]):
            many -= 1
            break
    else:
        many = len(text)
    ahead = text[:many]
    return (ahead.count("\n") + 1, many - ahead.rfind("\n"))


def can_go_on_by(reads, templates):
    """Whether some end of one of the template lines makes a text of a beginning."""
    def can_go_on(start):
        lines = templates(start)
        return any(reads(start + line[at:]) for line in lines for at in range(len(line) + 1))
    return can_go_on


def mutations(texts, signs, seed, many):
    """Texts with one, two or three signs changed, taken out or put in, or cut somewhere."""
    source = random.Random(seed)
    for _ in range(many):
        text = source.choice(texts)
        for _ in range(source.randint(0, 3)):
            at = source.randint(0, len(text))
            kind = source.randint(0, 3)
            if kind == 0:
                text = text[:at] + source.choice(signs) + text[at:]
            elif kind == 1:
                text = text[:at] + source.choice(signs) + text[at + 1:]
            elif kind == 2:
                text = text[:at] + text[at + 1:]
            else:
                text = text[:at]
        yield text


def check_errors(case, functions, right, wrong):
    """That each parameter's wrong things raise its own error, with the very object, ahead of later ones.

    functions are pairs of a function and the names of its parameters; wrong is a dict from
    names to pairs of wrong things and the error, in the order in which errors are due.
    """
    for function, names in functions:
        case.assertEqual(list(inspect.signature(function).parameters), names)
        due = [name for name in wrong if name in names]
        for at, due_name in enumerate(due):
            things, kind = wrong[due_name]
            for thing in things:
                passed = {name: None if name in due[at:] else right[name] for name in names}
                passed[due_name] = thing
                try:
                    function(*passed.values())
                    case.fail((function.__name__, due_name, thing))
                except kind as error:
                    case.assertIs(list(vars(error).values())[0], thing)
