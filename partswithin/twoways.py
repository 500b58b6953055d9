"""Two ways that have nothing in common."""

from partswithin.walks import row_to


def ways_apart(steps, one, other):
    """Two ways, from one and from other, to ends, with no thing in both; None if there are none.

    steps is a dict from each thing to the list of those to which one can go; ends have none.
    """
    first = row_to(one, lambda thing: steps[thing],
                   lambda thing: steps[thing] == [])
    turned = row_to((other, False), moves_beside(steps, first),
                    lambda move: steps[move[0]] == [] and move[0] not in first)
    if turned is None:
        return None
    following = dict(zip(first, first[1:]))
    for (thing, is_out), (near, _) in zip(turned, turned[1:]):
        if is_out and thing != near:
            following[thing] = near
        elif thing != near:
            del following[near]
    return (way_along(following, one), way_along(following, other))


def moves_beside(steps, first):
    """What tells how to go beside a first way, or to turn it off.

    A move is a pair (thing, is_out). A thing that the first way has can only be come to
    against this way: then the first way is turned off at the thing ahead, and goes on
    otherwise from there, or from further ahead.
    """
    ahead = dict(zip(first[1:], first))

    def moves(move):
        thing, is_out = move
        if is_out:
            back = [(thing, False)] if thing in first else []
            return [(near, False) for near in steps[thing]] + back
        if thing in ahead:
            return [(ahead[thing], True)]
        return [] if thing in first else [(thing, True)]

    return moves


def way_along(following, thing):
    way = [thing]
    while way[-1] in following:
        way.append(following[way[-1]])
    return way
