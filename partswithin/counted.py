"""All partings by ridges, counted, and told by their indexes."""

from partswithin.checks import need_web
from partswithin.errors import BadNumber
from partswithin.forms import is_number
from partswithin.hollows import falls, floor, hollows_by_place
from partswithin.joined import Joined
from partswithin.partings import need_parting, parting_told
from partswithin.walks import walk


def plateaus(web, owners):
    """The lots of the places in no hollow that fall to one another, lower floors first."""
    floors = {place: floor(web, place) for place in web.places()}
    joined = Joined([place for place in web.places() if place not in owners])
    for one, other, height in web.ties():
        if floors[one] == floors[other] == height and one not in owners and other not in owners:
            joined.unite(one, other)
    return sorted(joined.lots(), key=lambda lot: floors[lot[0]])


def all_owners(web):
    """For each parting by ridges the dict from each place to the first one of its lot's hollow."""
    hollow_places = hollows_by_place(web)
    rows = [{place: hollow_places[place][0] for place in hollow_places}]
    for plateau in plateaus(web, hollow_places):
        # whatever is given to the places below, something can be given to these
        rows = [{**row, **more} for row in rows for more in owners_of(web, row, plateau)]
    return rows


def owners_of(web, below, plateau):
    """All dicts from the places of a plateau to owners to which falls lead among alike ones.

    below is such a dict of all places of lower floors to which they fall.
    """
    lower = {place: [near for near in falls(web, place) if near in below] for place in plateau}
    owners = sorted(set([below[near] for place in plateau for near in lower[place]]))
    rows = [{}]
    for place in plateau:
        rows = [{**row, place: owner} for row in rows for owner in owners]
    return [row for row in rows if are_led(web, below, row, lower)]


def are_led(web, below, row, lower):
    """Whether from each place of a plateau falls lead, among those of its owner, to a lower one."""
    starts = [place for place in row if any([below[near] == row[place] for near in lower[place]])]

    def steps(stop):
        return [beside for beside in falls(web, stop) if row.get(beside) == row[stop]]

    # those of a plateau fall to one another, so they can be gone either way
    return len(walk(starts, steps)) == len(row)


def all_partings(web):
    partings = []
    for owners in all_owners(web):
        lots = {}
        for place in web.places():
            lots.setdefault(owners[place], []).append(place)
        partings.append(sorted(list(lots.values())))
    return sorted(partings)


def count_partings(web):
    need_web(web)
    return len(all_owners(web))


def parting_at(web, number):
    need_web(web)
    partings = all_partings(web)
    if not is_number(number) or number >= len(partings):
        raise BadNumber(number)
    return partings[number]


def parting_number(web, parting):
    need_parting(web, parting)
    partings = all_partings(web)
    told = parting_told(parting)
    return partings.index(told) if told in partings else None
