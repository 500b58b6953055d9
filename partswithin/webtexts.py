"""Texts of webs, written, read, and gone on with."""

from partswithin.errors import BadWeb
from partswithin.signs import Signs, fault_of
from partswithin.weblines import WebLines
from partswithin.webs import Web


def web_text(web):
    if not isinstance(web, Web):
        raise BadWeb(web)
    lines = [f"place {place}\n" for place in web.places()]
    ties = [f"tie {one} {other} {height}\n" for one, other, height in web.ties()]
    return "".join(lines + ties)


def read_web(text):
    return lines_told(text).web()


def lines_told(text):
    """All that the lines of a web text tell."""
    signs = Signs(text)
    lines = WebLines()
    while not signs.ended():
        lines.read_line(signs)
    return lines


def web_fault(text):
    return fault_of(read_web, text)


def web_goes_on(text):
    fault = web_fault(text)
    if fault is None:
        return text
    if not isinstance(text, str) or fault != place_behind(text):
        return None
    start = text.rfind("\n") + 1
    lines = lines_told(text[:start])
    return text[:start] + line_from(lines, text[start:])


def place_behind(text):
    """The line and the sign that are one behind the last sign."""
    return (text.count("\n") + 1, len(text) - text.rfind("\n"))


def line_from(lines, tail):
    """A line that can come next and begins with this tail; one there must be."""
    word = "place "
    if word.startswith(tail) or tail.startswith(word):
        return word + lines.free_name(tail[len(word):]) + "\n"
    for one in lines.firsts():
        begun = f"tie {one} "
        if begun.startswith(tail) or tail.startswith(begun):
            for other in lines.seconds(one):
                line = tie_from(begun + other + " ", tail)
                if line is not None:
                    return line
    return None


def tie_from(begun, tail):
    """A line that begins with this much of a tie, and with this tail; None if none does."""
    if begun.startswith(tail):
        return begun + "0\n"
    if not tail.startswith(begun):
        return None
    return tail + ("1\n" if tail.endswith("-") else "\n")
