"""Webs: places, and ties with heights."""

from partswithin.errors import BadPlaces, BadTies, NoPlace
from partswithin.forms import is_integer, is_list, is_name, is_row


class Web:
    """Places, some of them tied, each tie with a height."""

    def __init__(self, places, ties):
        check_places(places)
        self._near = {place: {} for place in sorted(places)}
        if not is_list(ties):
            raise BadTies(0)
        for index, row in enumerate(ties):
            if not self._can_take(row):
                raise BadTies(index)
            one, other, height = row
            self._near[one][other] = height
            self._near[other][one] = height

    def _can_take(self, row):
        """Whether this is a tie of two unlike places that are not tied yet."""
        if not is_row(row, 3):
            return False
        one, other, height = row
        if not self.has_place(one) or not self.has_place(other) or one == other:
            return False
        return other not in self._near[one] and is_integer(height)

    def places(self):
        return list(self._near)

    def ties(self):
        return sorted([(one, other, self._near[one][other])
                       for one in self._near for other in self._near[one] if one < other])

    def ties_of(self, place):
        if not self.has_place(place):
            raise NoPlace(place)
        return sorted(self._near[place].items())

    def has_place(self, thing):
        """Whether any object is one of the places."""
        return isinstance(thing, str) and thing in self._near

    def height(self, one, other):
        """The height of the tie of two places, None if they are not tied."""
        return self._near[one].get(other)

    def __eq__(self, other):
        return isinstance(other, Web) and self._near == other._near


def check_places(places):
    """Raises BadPlaces for the first thing that cannot be a web's place."""
    if not is_list(places):
        raise BadPlaces(0)
    stood = {}
    for index, place in enumerate(places):
        if not is_name(place) or place in stood:
            raise BadPlaces(index)
        stood[place] = True
