"""The text of a room."""

from lostland.errors import InvalidText
from lostland.exact import fraction_text, read_fraction
from lostland.kinds import is_kind
from lostland.names import is_name
from lostland.rooms import MOST_SHEETS, Room
from lostland.sheets import MOST_MARKS, Sheet


def room_text(room):
    """The text of a room."""
    lines = []
    for sheet in room:
        lines.append(f"sheet {sheet.name} {sheet.kind}\n")
        for mark, (x, y) in sheet.readings():
            lines.append(f"{mark} {fraction_text(x)} {fraction_text(y)}\n")
        lines.append("end\n")
    return "".join(lines + [f"mark {mark}\n" for mark in room.loose()])


def read_room(text):
    """The room with a text."""
    reader = RoomReader()
    read_by(reader, text)
    return reader.result()


def read_by(reader, text):
    """Has a reader take all lines of a text; raises for the first line that cannot stand."""
    if not isinstance(text, str):
        raise InvalidText(0, "form")
    lines = text.split("\n")
    cut_off = lines.pop()
    for at, line in enumerate(lines):
        why = reader.take(line)
        if why is not None:
            raise InvalidText(at, why)
    if cut_off != "":
        raise InvalidText(len(lines), "form")
    if reader.is_in_sheet():
        raise InvalidText(len(lines), "missing")


class RoomReader:
    """Takes the lines of the text of a room one by one, up to the first that cannot stand."""

    def __init__(self):
        self._sheets = []
        self._head = None
        self._readings = []
        self._loose = []
        self._stood = {}

    def is_in_sheet(self):
        """Whether the sheet of an earlier line has not come to its end."""
        return self._head is not None

    def result(self):
        """The room of all lines, which do not stop within a sheet."""
        sheets = self._sheets
        return Room(*sheets, marks=self._loose)

    def take(self, line):
        """Takes the next line in; returns why it cannot stand, None if it can."""
        words = line.split(" ")
        if self.is_in_sheet():
            return self._take_in_sheet(words)
        if _is_head(words) and self._loose == []:
            return self._take_head(words[1], words[2])
        if len(words) == 2 and words[0] == "mark" and is_name(words[1]):
            return self._take_loose(words[1])
        return "form"

    def _take_head(self, name, kind):
        if name in [sheet.name for sheet in self._sheets]:
            return "double"
        if len(self._sheets) == MOST_SHEETS:
            return "many"
        self._head = (name, kind)
        return None

    def _take_in_sheet(self, words):
        if words == ["end"]:
            name, kind = self._head
            self._sheets.append(Sheet(name, kind, self._readings))
            self._head = None
            self._readings = []
            return None
        spot = _spot_of(words)
        if spot is None:
            return "form"
        mark = words[0]
        if mark in [own for own, _ in self._readings]:
            return "double"
        if self._is_mark_too_many(mark):
            return "many"
        self._readings.append((mark, spot))
        self._stood[mark] = True
        return None

    def _take_loose(self, mark):
        if mark in self._stood:
            return "double"
        if self._is_mark_too_many(mark):
            return "many"
        if self._loose != [] and mark < self._loose[-1]:
            return "order"
        self._loose.append(mark)
        self._stood[mark] = True
        return None

    def _is_mark_too_many(self, mark):
        return mark not in self._stood and len(self._stood) == MOST_MARKS


def _is_head(words):
    """Whether the words of a line begin a sheet."""
    return len(words) == 3 and words[0] == "sheet" and is_name(words[1]) and is_kind(words[2])


def _spot_of(words):
    """The spot of the words of a reading; None if they are none of a reading."""
    if len(words) != 3 or not is_name(words[0]):
        return None
    x, y = read_fraction(words[1]), read_fraction(words[2])
    return None if x is None or y is None else (x, y)
