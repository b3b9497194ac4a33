"""Rooms of sheets."""

from lostland.errors import (
    DuplicateName, InUse, InvalidMark, InvalidName, InvalidSheet, TooMany, UnknownMark,
    UnknownReading, UnknownSheet)
from lostland.kinds import is_free_kind
from lostland.names import is_name
from lostland.sheets import MOST_MARKS, Sheet

MOST_SHEETS = 8


class Room:
    """Sheets with different names, and marks, which may be loose."""

    def __init__(self, *sheets, marks=()):
        _check_sheets(sheets)
        _check_marks(marks)
        every = {mark: True for sheet in sheets for mark in sheet.marks()}
        for mark in marks:
            every[mark] = True
        if len(every) > MOST_MARKS:
            raise TooMany(MOST_MARKS)
        self._sheets = list(sheets)
        self._marks = sorted(list(every))

    def sheets(self):
        """The list of the sheets."""
        return list(self._sheets)

    def names(self):
        """The list of the names of the sheets."""
        return [sheet.name for sheet in self._sheets]

    def sheet(self, name):
        """The sheet with a name."""
        for one in self._sheets:
            if one.name == name:
                return one
        raise UnknownSheet(name)

    def marks(self):
        """The ascending list of all marks."""
        return list(self._marks)

    def loose(self):
        """The ascending list of the marks that no sheet reads."""
        return [mark for mark in self._marks if self.readers(mark) == []]

    def readers(self, mark):
        """The list of the names of the sheets that read a mark, in order."""
        if mark not in self._marks:
            raise UnknownMark(mark)
        return [sheet.name for sheet in self._sheets if mark in sheet]

    def readings(self):
        """The list of the pairs (sheet, mark), in the order of the readings."""
        return [(sheet.name, mark) for sheet in self._sheets for mark in sheet.marks()]

    @property
    def is_free(self):
        """Whether all kinds of the sheets are free."""
        return all([is_free_kind(sheet.kind) for sheet in self._sheets])

    def with_sheet(self, sheet):
        """The room with one more sheet, or with another one of the same name."""
        if not isinstance(sheet, Sheet):
            raise InvalidSheet(-1)
        sheets = [sheet if own.name == sheet.name else own for own in self._sheets]
        if sheet.name not in self:
            sheets.append(sheet)
        return Room(*sheets, marks=self._marks)

    def without_sheet(self, name):
        """The room without a sheet, whose marks stay."""
        if name not in self:
            raise UnknownSheet(name)
        sheets = [sheet for sheet in self._sheets if sheet.name != name]
        return Room(*sheets, marks=self._marks)

    def with_reading(self, name, mark, spot):
        """The room with one more reading of a sheet, or with another one of the same mark."""
        return self.with_sheet(self.sheet(name).with_reading(mark, spot))

    def without(self, name, mark):
        """The room without a reading, whose mark stays."""
        sheet = self.sheet(name)
        if mark not in sheet:
            raise UnknownReading(name, mark)
        return self.with_sheet(sheet.without(mark))

    def with_mark(self, mark):
        """The room with a mark, which may be there."""
        if not is_name(mark):
            raise InvalidName(mark)
        marks = [own for own in self._marks if own != mark] + [mark]
        return Room(*self._sheets, marks=marks)

    def without_mark(self, mark):
        """The room without a loose mark."""
        if self.readers(mark) != []:
            raise InUse(mark)
        marks = [own for own in self._marks if own != mark]
        return Room(*self._sheets, marks=marks)

    def __contains__(self, name):
        return name in self.names()

    def __iter__(self):
        return iter(self._sheets)

    def __eq__(self, other):
        return (isinstance(other, Room) and self.sheets() == other.sheets()
                and self.marks() == other.marks())

    def __len__(self):
        return len(self._sheets)

    def __bool__(self):
        return True

    def __repr__(self):
        return f"Room({len(self._sheets)} sheets, {len(self._marks)} marks)"


def _check_sheets(sheets):
    """Raises for the first value that cannot stand among the sheets of a room."""
    for at, value in enumerate(sheets):
        if not isinstance(value, Sheet):
            raise InvalidSheet(at)
    if len(sheets) > MOST_SHEETS:
        raise TooMany(MOST_SHEETS)
    ahead = []
    for sheet in sheets:
        if sheet.name in ahead:
            raise DuplicateName(sheet.name)
        ahead.append(sheet.name)


def _check_marks(marks):
    """Raises for the first item that cannot stand among the further marks of a room."""
    if not isinstance(marks, (list, tuple)):
        raise InvalidMark(-1)
    ahead = []
    for at, value in enumerate(marks):
        if not is_name(value) or value in ahead:
            raise InvalidMark(at)
        ahead.append(value)
