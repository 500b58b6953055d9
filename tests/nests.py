"""Small priced nests, the same ones each time, and all that is found in them by plain looking."""

import itertools
import random
from fractions import Fraction

from partswithin.priced import Priced

PRICES = [(0, 1), (1, 1), (1, 2), (2, 3), (3, 1), (5, 2), (12, 5), (10 ** 8, 1), (1, 10 ** 8)]


def laminar(source, places):
    """Lots within lots: all that some plain partings, one within the other, are made of."""
    lots = [[place] for place in places]
    groups = list(lots)
    while len(groups) > 1 and source.random() < 0.85:
        many = source.choice((2, 2, 2, 3))
        chosen = source.sample(groups, min(many, len(groups)))
        groups = [group for group in groups if group not in chosen] + [sum(chosen, [])]
        lots.append(groups[-1])
    return [sorted(lot) for lot in lots]


def priced_rows(source, places, most=6):
    """Rows of a priced nest over these places."""
    rows = []
    for lot in sorted(laminar(source, places), key=len):
        inner = [row for row in rows if set(row[0]) < set(lot)]
        parts = [row for row in inner if not any(set(row[0]) < set(other[0]) for other in inner)]
        if not parts:
            rows.append((lot, source.randint(0, 2), source.randint(0, most)))
        else:
            border = sum(row[2] for row in parts)
            rows.append((lot, sum(row[1] for row in parts) + source.randint(0, most),
                         max(0, border - source.randint(0, most))))
    return source.sample(rows, len(rows))


def small_nests(seed, many, most_places=6):
    source = random.Random(seed)
    return [Priced(priced_rows(source, list("abcdefghij"[:source.randint(0, most_places)]))) for _ in range(many)]


def all_partings(priced):
    """All lists of lots with each place in just one, ascending."""
    lots = [lot for lot, _, _ in priced.rows()]
    found = []
    begun = [([], priced.places())]
    for chosen, left in begun:
        if not left:
            found.append(sorted(chosen))
            continue
        begun += [(chosen + [lot], [place for place in left if place not in lot])
                  for lot in lots if lot[0] == left[0] and set(lot) <= set(left)]
    return sorted(found)


def worth_of(priced, lots, price):
    """What some lots are worth together, as a Fraction."""
    return sum((priced.loss(lot) + Fraction(*price) * priced.border(lot) for lot in lots), Fraction(0))


def best_ones(priced, price):
    """All best partings, ascending."""
    rows = [(worth_of(priced, lots, price), lots) for lots in all_partings(priced)]
    return [lots for total, lots in rows if total == min(rows)[0]]


def lies_within(one, other):
    """Whether each lot of the one parting lies within one of the other."""
    return all(any(set(lot) <= set(great) for great in other) for lot in one)


def parting_lots(priced, lot):
    """All lists of two lots of the nest or more that part a lot."""
    rows = [row[0] for row in priced.rows() if set(row[0]) < set(lot)]
    return [sorted(chosen) for many in range(2, len(rows) + 1) for chosen in itertools.combinations(rows, many)
            if sorted(place for one in chosen for place in one) == sorted(lot)]


def chain(many):
    """A priced nest of many places, each two behind one another: lots within lots, so many deep."""
    places = [f"p{number:03d}" for number in range(many)]
    rows = [([place], 0, 3) for place in places]
    rows += [(places[:size], size * size, 3 * size - size // 2) for size in range(2, many + 1)]
    return rows


def halves(many):
    """A priced nest of many places, halved again and again."""
    lots = [[f"p{number:03d}" for number in range(many)]]
    for lot in lots:
        if len(lot) > 1:
            lots += [lot[:len(lot) // 2], lot[len(lot) // 2:]]
    return [(lot, (len(lot) - 1) * len(lot), 2 + len(lot) // 2) for lot in lots]


def at_least(more, saved):
    """The least price from 0 on at which so much border makes up for so much loss; None if none does."""
    if more <= 0:
        return Fraction(0)
    return Fraction(more, saved) if saved > 0 else None


def turning_prices(priced):
    """All prices at which two partings are alike dear, 0, and one between each two and behind all."""
    rows = {(sum(priced.loss(lot) for lot in lots), sum(priced.border(lot) for lot in lots))
            for lots in all_partings(priced)}
    prices = {Fraction(0)}
    for (loss, border), (more, less) in itertools.permutations(rows, 2):
        if border > less and more >= loss:
            prices.add(Fraction(more - loss, border - less))
    prices = sorted(prices)
    behind = prices[1:] + [prices[-1] + 2]
    return sorted({price for pair in zip(prices, behind) for price in (pair[0], sum(pair) / 2)})


def pair_of(price):
    return None if price is None else (price.numerator, price.denominator)


def coarsest_by_price(priced):
    """For each turning price the coarsest best parting there, all best ones being listed."""
    found = []
    for price in turning_prices(priced):
        best = best_ones(priced, pair_of(price))
        found += [(price, lots) for lots in best if all(lies_within(other, lots) for other in best)]
    return found
