"""Texts, read sign by sign up to the first wrong one.

A sign is let by only if some text that is read begins with all signs up to it:
so whatever reads on from here must ask for each sign whether it can still end well.
"""

from math import gcd

from partswithin.errors import BadText
from partswithin.forms import FIGURES

MOST_FIGURES = 16


class Signs:
    """A text with a place in it; BadText is raised at the first wrong sign."""

    def __init__(self, text):
        if not isinstance(text, str):
            raise BadText(0, 0)
        self._text = text
        self._done = 0
        self._at_line = 1
        self._at_sign = 1

    def ended(self):
        return self._done == len(self._text)

    def seen(self):
        """The sign that comes next, the empty text behind the last one."""
        return self._text[self._done:self._done + 1]

    def sees(self, choices):
        """Whether the sign that comes next is one of these."""
        return not self.ended() and self.seen() in choices

    def wrong(self):
        """Says that what comes next is wrong, be it a sign or the end."""
        raise BadText(self._at_line, self._at_sign)

    def take(self, choices):
        """Goes over the next sign, which must be one of these."""
        if not self.sees(choices):
            self.wrong()
        sign = self.seen()
        self._done += 1
        self._at_sign += 1
        if sign == "\n":
            self._at_line += 1
            self._at_sign = 1
        return sign

    def one_of(self, words):
        """Goes over one word of this list, in which none begins another one."""
        fits = words
        word = ""
        while fits != [word]:
            word = word + self.take([other[len(word)] for other in fits])
            fits = [other for other in fits if other.startswith(word)]
        return word


def fault_of(read, text):
    """Where a text is wrong, by what reads it; None if it is read."""
    try:
        read(text)
    except BadText as bad:
        return (bad.line, bad.sign)
    return None


def read_number(signs):
    figures = signs.take(FIGURES)
    while figures != "0" and len(figures) < MOST_FIGURES and signs.sees(FIGURES):
        figures = figures + signs.take(FIGURES)
    return int(figures)


def read_integer(signs):
    if not signs.sees("-"):
        return read_number(signs)
    signs.take("-")
    if signs.sees("0"):
        signs.wrong()
    return -read_number(signs)


def read_fraction(signs):
    """A fraction from 0 on, as (over, under)."""
    over = read_number(signs)
    # 0 has the under 1 alone, which is not written
    if over == 0 or not signs.sees("/"):
        return (over, 1)
    signs.take("/")
    figures = ""
    while signs.sees(FIGURES) and begins_under(over, figures + signs.seen()):
        figures = figures + signs.take(FIGURES)
    if figures in ("", "1") or gcd(over, int(figures)) > 1:
        signs.wrong()
    return (over, int(figures))


def begins_under(over, figures):
    """Whether an under above 1 that shares no divisor with over begins with these figures."""
    if figures[0] == "0":
        return False
    low = int(figures)
    high = low + 1
    for _ in range(MOST_FIGURES - len(figures) + 1):
        if has_prime_to(over, low, high):
            return True
        low = low * 10
        high = high * 10
    return False


def has_prime_to(over, low, high):
    """Whether a number from low on and below high, not 1, shares no divisor with over."""
    # over has few divisors that are prime: a long stretch is never gone through to its end
    for under in range(low, high):
        if under > 1 and gcd(over, under) == 1:
            return True
    return False


def read_name(signs, stock):
    """A name that is left in the stock."""
    name = ""
    while not signs.ended() and stock.has_beginning(name + signs.seen()):
        name = name + signs.take(signs.seen())
    if not stock.has_left(name):
        signs.wrong()
    return name


def read_lot(signs, stock, stood, close):
    """The names of a lot, ascending; each is taken from the stock.

    Behind them close must follow, and then the lot is to be none of those that stood.
    """
    names = []
    names.append(read_new_name(signs, stock))
    while signs.sees(","):
        signs.one_of([", "])
        names.append(read_new_name(signs, stock))
    lot = sorted(names)
    if tuple(lot) in stood:
        signs.wrong()
    signs.one_of([close])
    return lot


def read_new_name(signs, stock):
    name = read_name(signs, stock)
    stock.grab(name)
    return name
