"""The lines of web texts, read one by one, and what of a web they have told so far."""

from partswithin.namestock import NameStock
from partswithin.signs import read_integer, read_name
from partswithin.webs import Web


class WebLines:
    """What place and tie lines have told; it can be asked what may follow."""

    def __init__(self):
        self._stock = NameStock()
        self._tied = {}
        self._rows = []

    def words(self):
        """The words with which a next line can begin."""
        many = len(self._tied)
        if 2 * len(self._rows) < many * (many - 1):
            return ["place ", "tie "]
        return ["place "]

    def firsts(self):
        """The places that are not yet tied to all others."""
        return [place for place in self._tied if len(self._tied[place]) < len(self._tied) - 1]

    def seconds(self, one):
        """The places to which this one can be tied."""
        return [place for place in self._tied if place != one and place not in self._tied[one]]

    def free_name(self, start):
        """A name of no place yet that begins so; one there must be."""
        return self._stock.first_left(start)

    def read_line(self, signs):
        self.read_rest(signs, signs.one_of(self.words()))

    def read_rest(self, signs, word):
        """Reads what comes behind one of the words."""
        if word == "place ":
            self._read_place(signs)
        else:
            self._read_tie(signs)

    def _read_place(self, signs):
        name = read_name(signs, self._stock)
        signs.one_of(["\n"])
        self._stock.grab(name)
        self._tied[name] = {}

    def _read_tie(self, signs):
        one = read_place(signs, self.firsts())
        other = read_place(signs, self.seconds(one))
        height = read_integer(signs)
        signs.one_of(["\n"])
        self._tied[one][other] = True
        self._tied[other][one] = True
        self._rows.append((one, other, height))

    def web(self):
        return Web(list(self._tied), self._rows)


def read_place(signs, places):
    """One of these places, with the blank behind it."""
    # with the blank no word begins another one, as one_of asks
    word = signs.one_of([place + " " for place in places])
    return word[:-1]
