"""Steps from one parting by ridges to another one."""

from partswithin.checks import need_web
from partswithin.forms import is_list, lot_indexes
from partswithin.hollows import hollows
from partswithin.levels import hangs_together
from partswithin.partings import choices_within, lots_chosen
from partswithin.ridges import need_by_ridges, ridge_fault


def need_both(web, one, other):
    need_web(web)
    need_by_ridges(web, one)
    need_by_ridges(web, other)


def led(web, one, other):
    need_both(web, one, other)
    choices = choices_within(web, one)
    rows = [lots_chosen(web, choices)]
    # from the hollows up: so a choice that is turned stays in the lot to which it is to come
    for place, near in choices_within(web, other).items():
        choices[place] = near
        lots = lots_chosen(web, choices)
        if lots != rows[-1]:
            rows.append(lots)
    return rows


def is_led(web, one, other, thing):
    need_both(web, one, other)
    if not is_list(thing) or len(thing) == 0:
        return False
    if not all([ridge_fault(web, parting) is None for parting in thing]):
        return False
    rows = [hollows_had(web, parting) for parting in thing]
    if rows[0] != hollows_had(web, one) or rows[-1] != hollows_had(web, other):
        return False
    return all([is_step(web, ahead, behind) for ahead, behind in zip(rows, rows[1:])])


def hollows_had(web, parting):
    """The dict from each place to the first place of its lot's hollow."""
    indexes = lot_indexes(parting)
    firsts = {indexes[hollow[0]]: hollow[0] for hollow in hollows(web)}
    return {place: firsts[indexes[place]] for place in web.places()}


def is_step(web, ahead, behind):
    """Whether places that hang together go out of one lot into another one, and no others go."""
    moved = [place for place in ahead if ahead[place] != behind[place]]
    if len(moved) == 0 or not hangs_together(web, moved):
        return False
    first = moved[0]
    return all([ahead[place] == ahead[first] and behind[place] == behind[first] for place in moved])
