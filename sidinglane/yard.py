"""A yard: a lane, its trains and a stand, in which moves are done and sidings get longer."""

from sidinglane.errors import NoPlace
from sidinglane.lanes import MOST_HELD, is_number, need_stand
from sidinglane.moves import behind
from sidinglane.search import closed, least_row, reached


class Yard:
    """A lane with its trains as they stand now."""

    def __init__(self, lane, ways, stand):
        need_stand(lane, ways, stand)
        self._lane = list(lane)
        self._ways = list(ways)
        self._stand = stand
        # The lane ahead of the last deed, where that was to make a siding longer.
        self._shorter = None

    def lane(self):
        """The lane as it is."""
        return list(self._lane)

    def ways(self):
        """The ways of the trains."""
        return list(self._ways)

    def stand(self):
        """The stand as it is."""
        return self._stand

    def do(self, move):
        """Does a move; NoMove where it is none that is allowed."""
        self._stand = behind(self._lane, self._ways, self._stand, move)
        self._shorter = None

    def longer(self, place):
        """Makes the siding of a place hold one more; NoPlace of what is no place or one with the most."""
        if not is_number(place, 0, len(self._lane) - 1):
            raise NoPlace("the lane does not have this place")
        if self._lane[place] == MOST_HELD:
            raise NoPlace("the siding of this place does not get longer")
        self._shorter = list(self._lane)
        self._lane[place] += 1

    def price(self):
        """The price of the stand as it is, or None."""
        row = self.row()
        return None if row is None else len(row)

    def row(self):
        """A row that brings all through by the fewest moves, or None."""
        return least_row(self._lane, self._ways, self._stand)

    def closed(self):
        """A closed set that has the stand as it is, or None."""
        return closed(self._lane, self._ways, self._stand)

    def gained(self):
        """How many more stands can be reached for the last deed, if that was to make a siding longer; else 0."""
        if self._shorter is None:
            return 0
        # Where a siding holds more no stand is lost, so the new ones are as many as there are more.
        return self._many_reached(self._lane) - self._many_reached(self._shorter)

    def _many_reached(self, lane):
        """How many stands rows lead to from the stand as it is, on this lane."""
        return len(reached(lane, self._ways, self._stand))
