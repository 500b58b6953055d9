"""The best partings of a priced nest at a price, and what shows that a parting is none."""

from partswithin.errors import BadNumber
from partswithin.forms import is_list, is_number, is_row
from partswithin.worths import need_parting, need_price, need_priced


class Worths:
    """What all lots of a priced nest, and the best lots that part them, are worth at a price.

    Lots are told as tuples, worths as integers: times what is under the price.
    """

    def __init__(self, priced, price):
        over, under = price
        self.all_lots = priced.rising()
        self.made_of = {lot: priced.parts_told(lot) for lot in self.all_lots}
        self.own = {}
        for lot in self.all_lots:
            loss, border = priced.weighs(lot)
            self.own[lot] = loss * under + border * over
        # the least worth of lots that part a lot, None for a place alone
        self.parted = {}
        least = {}
        for lot in self.all_lots:
            below = [least[part] for part in self.made_of[lot]]
            self.parted[lot] = sum(below) if below else None
            least[lot] = min([self.own[lot], sum(below)]) if below else self.own[lot]

    def together(self, lots):
        """What these lots are worth."""
        return sum([self.own[lot] for lot in lots])

    def is_right_whole(self, lot):
        """Whether no lots that part this one are less dear."""
        return self.parted[lot] is None or self.own[lot] <= self.parted[lot]

    def is_right_parted(self, lot):
        """Whether some lots part this one, and are not dearer."""
        return self.parted[lot] is not None and self.parted[lot] <= self.own[lot]

    def too_dear(self, lot):
        """How much a lot is worth above the least of lots that part it; None for a place alone."""
        return None if self.parted[lot] is None else self.own[lot] - self.parted[lot]

    def around(self, lot):
        """The lots that have a lot and more, lesser ones first."""
        return [one for one in self.all_lots if len(one) > len(lot) and lot[0] in one]

    def greatest(self):
        """The lots that lie within no other one."""
        inner = {part: True for lot in self.all_lots for part in self.made_of[lot]}
        return [lot for lot in self.all_lots if lot not in inner]

    def best_within(self, lots, is_coarse):
        """The coarsest best parting of what these lots have, or the finest one, ascending."""
        queue = list(lots)
        found = []
        while queue:
            lot = queue.pop()
            if self.is_right_whole(lot) and (is_coarse or not self.is_right_parted(lot)):
                found.append(list(lot))
            else:
                queue.extend(self.made_of[lot])
        return sorted(found)


def worths_at(priced, price):
    need_priced(priced)
    need_price(price)
    return Worths(priced, price)


def coarsest(priced, price):
    worths = worths_at(priced, price)
    return worths.best_within(worths.greatest(), True)


def finest(priced, price):
    worths = worths_at(priced, price)
    return worths.best_within(worths.greatest(), False)


def product_of(numbers):
    total = 1
    for number in numbers:
        total = total * number
    return total


def count_best(priced, price):
    worths = worths_at(priced, price)
    counts = {}
    for lot in worths.all_lots:
        counts[lot] = 1 if worths.is_right_whole(lot) else 0
        if worths.is_right_parted(lot):
            counts[lot] += product_of([counts[part] for part in worths.made_of[lot]])
    return product_of([counts[lot] for lot in worths.greatest()])


def best_at(priced, price, number):
    many = count_best(priced, price)
    if not is_number(number) or number >= many:
        raise BadNumber(number)
    worths = Worths(priced, price)
    rows = {}
    for lot in worths.all_lots:
        rows[lot] = [[lot]] if worths.is_right_whole(lot) else []
        if worths.is_right_parted(lot):
            rows[lot] = rows[lot] + one_of_each([rows[part] for part in worths.made_of[lot]])
    partings = sorted([sorted(row) for row in one_of_each([rows[lot] for lot in worths.greatest()])])
    return [list(lot) for lot in partings[number]]


def one_of_each(choices):
    """All lists that come of putting one of each of these lists of lists together."""
    rows = [[]]
    for choice in choices:
        rows = [[*row, *more] for row in rows for more in choice]
    return rows


def worse(priced, parting, price):
    need_parting(priced, parting)
    worths = worths_at(priced, price)
    told = sorted([priced.lot_told(lot) for lot in parting])
    for lot in told:
        if not worths.is_right_whole(lot):
            return ("part", list(lot), worths.best_within(worths.made_of[lot], True))
    # now each lot of the parting is best by itself: so a first lot that is worth less
    # than those of the parting in it is worth less than all that part it
    together = {lot: worths.own[lot] for lot in told}
    for lot in worths.all_lots:
        parts = worths.made_of[lot]
        if lot not in together and len(parts) > 0 and all([part in together for part in parts]):
            together[lot] = sum([together[part] for part in parts])
            if worths.own[lot] < together[lot]:
                return ("join", list(lot))
    return None


def is_worse(priced, parting, price, thing):
    need_parting(priced, parting)
    worths = worths_at(priced, price)
    told = [priced.lot_told(lot) for lot in parting]
    if is_row(thing, 2) and thing[0] == "join":
        lot = priced.lot_told(thing[1])
        inside = [one for one in told if lot is not None and one[0] in lot]
        return have_the_same(inside, lot) and worths.own[lot] < worths.together(inside)
    if is_row(thing, 3) and thing[0] == "part":
        lot = priced.lot_told(thing[1])
        lots = lots_told(priced, thing[2])
        return lot in told and have_the_same(lots, lot) and worths.together(lots) < worths.own[lot]
    return False


def lots_told(priced, thing):
    """The lots that any object is a list of, as tuples; none at all if it has another thing."""
    lots = [priced.lot_told(lot) for lot in thing] if is_list(thing) else []
    return [] if None in lots else lots


def have_the_same(lots, lot):
    """Whether two lots or more have all places of a lot, each once, and no other."""
    return len(lots) > 1 and sorted([place for one in lots for place in one]) == list(lot)
