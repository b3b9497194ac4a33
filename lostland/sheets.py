"""Sheets with the spots at which they show marks."""

from lostland.errors import (
    InvalidKind, InvalidName, InvalidReading, InvalidSpot, TooMany, UnknownMark)
from lostland.exact import is_pair, is_spot
from lostland.kinds import is_kind
from lostland.names import is_name

MOST_MARKS = 12


class Sheet:
    """A name, a kind and readings of different marks."""

    def __init__(self, name, kind, readings=()):
        if not is_name(name):
            raise InvalidName(name)
        if not is_kind(kind):
            raise InvalidKind(kind)
        _check_readings(readings)
        self.name = name
        self.kind = kind
        self._readings = list(readings)

    def readings(self):
        """The list of the readings."""
        return list(self._readings)

    def marks(self):
        """The list of the marks that the sheet reads, in order."""
        return [mark for mark, _ in self._readings]

    def spot(self, mark):
        """The spot at which the sheet shows a mark."""
        for own, place in self._readings:
            if own == mark:
                return place
        raise UnknownMark(mark)

    def with_reading(self, mark, spot):
        """The sheet with one more reading, or with another one of the same mark."""
        if not is_name(mark):
            raise InvalidName(mark)
        if not is_spot(spot):
            raise InvalidSpot(spot)
        readings = [(own, spot if own == mark else place) for own, place in self._readings]
        if mark not in self:
            readings.append((mark, spot))
        return Sheet(self.name, self.kind, readings)

    def without(self, mark):
        """The sheet without the reading of a mark."""
        if mark not in self:
            raise UnknownMark(mark)
        return Sheet(self.name, self.kind, [one for one in self._readings if one[0] != mark])

    def named(self, name):
        """The sheet with another name."""
        return Sheet(name, self.kind, self._readings)

    def of_kind(self, kind):
        """The sheet with another kind."""
        return Sheet(self.name, kind, self._readings)

    def __contains__(self, mark):
        return mark in self.marks()

    def __eq__(self, other):
        return (isinstance(other, Sheet) and self.name == other.name and self.kind == other.kind
                and self.readings() == other.readings())

    def __len__(self):
        return len(self._readings)

    def __bool__(self):
        return True

    def __repr__(self):
        return f"Sheet({self.kind} {self.name}, {len(self._readings)} readings)"


def _check_readings(readings):
    """Raises for the first item that cannot stand among the readings of a sheet."""
    if not isinstance(readings, (list, tuple)):
        raise InvalidReading(-1)
    if len(readings) > MOST_MARKS:
        raise TooMany(MOST_MARKS)
    ahead = []
    for at, value in enumerate(readings):
        if not _is_reading(value) or value[0] in ahead:
            raise InvalidReading(at)
        ahead.append(value[0])


def _is_reading(value):
    """Whether any value is a pair of a name and a spot."""
    return is_pair(value) and is_name(value[0]) and is_spot(value[1])
