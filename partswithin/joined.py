"""Things that are joined two by two, and the lots that come of it."""


class Joined:
    """Lots of things: at first each is alone, then some are brought together."""

    def __init__(self, things):
        self._lots = {thing: [thing] for thing in things}
        self._tops = {thing: thing for thing in things}

    def unite(self, one, other):
        """Makes one lot of both; False if they were in one already."""
        great, small = self._tops[one], self._tops[other]
        if great == small:
            return False
        # the lesser lot is moved, so that no thing is moved often
        if len(self._lots[great]) < len(self._lots[small]):
            great, small = small, great
        moved = self._lots.pop(small)
        for thing in moved:
            self._tops[thing] = great
        self._lots[great].extend(moved)
        return True

    def unite_all(self, things):
        for thing in things:
            self.unite(things[0], thing)

    def unite_pairs(self, pairs):
        for one, other in pairs:
            self.unite(one, other)

    def top_of(self, thing):
        """One thing of its lot, the same for all in it."""
        return self._tops[thing]

    def are_one(self, one, other):
        return self._tops[one] == self._tops[other]

    def lot_of(self, thing):
        return sorted(self._lots[self._tops[thing]])

    def lots(self):
        return sorted([sorted(self._lots[top]) for top in self._lots])
