"""Walks over places, step by step."""

from heapq import heappop, heappush


def walk(starts, steps):
    """The dict from each place that is come to, nearest first, to the one ahead of it.

    It is None for those from which the walk starts. steps tells the places to which one
    can go from a place.
    """
    ahead = {place: None for place in starts}
    queue = list(ahead)
    done = 0
    while done < len(queue):
        place = queue[done]
        done += 1
        for near in steps(place):
            if near not in ahead:
                ahead[near] = place
                queue.append(near)
    return ahead


def row_to(start, steps, is_goal):
    """A row of unlike places, none but the last one a goal; None if no goal is come to."""
    ahead = walk([start], steps)
    # the first one come to has no other goal ahead of it
    for place in ahead:
        if is_goal(place):
            return row_back(ahead, place)
    return None


def row_back(ahead, place):
    row = []
    while place is not None:
        row.append(place)
        place = ahead[place]
    return row[::-1]


def descend(start, height, ties_at):
    """What is come to over ties that never rise, the first at most as high as told.

    It is two dicts from each place that is come to: to the greatest height that a last tie
    can have, and to the place ahead of it over such a tie, None for the start. ties_at tells
    the pairs (other, height) at a place.
    """
    heights = {}
    ahead = {}
    # no later tie is higher, so what comes out first has its greatest height
    queue = [(-height, start, None)]
    while queue:
        least, place, before = heappop(queue)
        if place in heights:
            continue
        heights[place] = -least
        ahead[place] = before
        for near, own in ties_at(place):
            if near not in heights and own <= -least:
                heappush(queue, (-own, near, place))
    return heights, ahead
