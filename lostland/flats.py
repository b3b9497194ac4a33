"""Flats: no spot, one spot, the spots of a line, or all spots."""

from lostland.errors import InvalidSpot
from lostland.exact import ONE, ZERO, direction, fraction, is_spot, plus, times, vector_minus
from lostland.tables import columns


class Flat:
    """The least flat with all of some spots."""

    def __init__(self, *spots):
        for value in spots:
            if not is_spot(value):
                raise InvalidSpot(value)
        self._corners = _independent(spots)

    @staticmethod
    def whole():
        """The flat of all spots."""
        return Flat((ZERO, ZERO), (ONE, ZERO), (ZERO, ONE))

    @property
    def size(self):
        """-1 for none, 0 for a spot, 1 for a line and 2 for all spots."""
        return len(self._corners) - 1

    def spots(self):
        """A list of size + 1 spots through which the flat goes."""
        return list(self._corners)

    def equation(self):
        """The numbers (a, b, c) of a line, whose spots have a x + b y = c."""
        if self.size != 1:
            return None
        return _equation(self._corners[0], self._corners[1])

    def moved(self, motion):
        """The flat of the images of the spots."""
        images = [motion(spot) for spot in self._corners]
        return Flat(*images)

    def __contains__(self, spot):
        return is_spot(spot) and _reaches(self._corners, spot)

    def __and__(self, other):
        """The flat of the spots of both."""
        if self.size > other.size:
            return other & self
        if all([spot in other for spot in self._corners]):
            return self
        if self.size < 1:
            return Flat()
        return _crossing(self.equation(), other.equation())

    def __or__(self, other):
        """The least flat with all spots of both."""
        spots = self.spots() + other.spots()
        return Flat(*spots)

    def __eq__(self, other):
        return (isinstance(other, Flat) and self.size == other.size
                and all([spot in self for spot in other.spots()]))

    def __repr__(self):
        return f"Flat({self.size})"


def _independent(spots):
    """Those of the spots that do not lie in the flat through the ones ahead of them."""
    corners = []
    for spot in spots:
        if not _reaches(corners, spot):
            corners.append(spot)
    return corners


def _reaches(corners, spot):
    """Whether a spot is in the flat through corners none of which the others make needless."""
    if len(corners) < 2:
        return spot in corners
    if len(corners) > 2:
        return True
    start, end = corners
    return columns(vector_minus(end, start), vector_minus(spot, start)).det == ZERO


def _equation(start, end):
    """The equation of the line through two different spots."""
    along, down = direction(vector_minus(end, start))
    across, up = direction(((down, 1), (-along, 1)))
    over, under = plus(times((across, 1), start[0]), times((up, 1), start[1]))
    return (across * under, up * under, over)


def _crossing(one, other):
    """The flat of the spots of two different lines with these equations."""
    det = one[0] * other[1] - one[1] * other[0]
    if det == 0:
        return Flat()
    across = one[2] * other[1] - one[1] * other[2]
    up = one[0] * other[2] - one[2] * other[0]
    return Flat((fraction(across, det), fraction(up, det)))
