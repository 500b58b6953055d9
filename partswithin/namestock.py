"""The names that are left when some are taken."""

from partswithin.forms import BARRED, MOST_SIGNS, NAME_SIGNS, begins_name, is_name


class NameStock:
    """All names but those that were taken, asked by what they begin with."""

    def __init__(self):
        self._taken = {}
        self._beginnings = {}

    def grab(self, name):
        """Takes a name that is left."""
        self._taken[name] = True
        for many in range(1, len(name) + 1):
            start = name[:many]
            self._beginnings[start] = self._beginnings.get(start, 0) + 1

    def has_left(self, name):
        return is_name(name) and name not in self._taken

    def has_beginning(self, start):
        """Whether a name that is left begins with these signs, or is these."""
        if not begins_name(start):
            return False
        barred = len([word for word in BARRED if word.startswith(start)])
        return self._beginnings.get(start, 0) + barred < how_many_begin(len(start))

    def first_left(self, start):
        """A name that is left and begins so; one there must be."""
        name = start
        while not self.has_left(name):
            signs = [sign for sign in NAME_SIGNS if self.has_beginning(name + sign)]
            name = name + signs[0]
        return name


def how_many_begin(many):
    """How many names there were with the same first signs, so many, if no word were barred."""
    count = 0
    for _ in range(MOST_SIGNS - many + 1):
        count = count * len(NAME_SIGNS) + 1
    return count
