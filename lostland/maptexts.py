"""The text of a map room."""

from lostland.claims import claim_text, is_plain, read_claim
from lostland.deeds import MOST_TOLD
from lostland.errors import InvalidClaim
from lostland.maproom import map_room_of
from lostland.texts import RoomReader, read_by, room_text


def map_text(maproom):
    """The text of a map room."""
    lines = [f"told {claim_text(claim)}\n" for claim in maproom.told()]
    return room_text(maproom.held()) + "".join(lines)


def read_map(text):
    """The map room with a text."""
    reader = MapReader()
    read_by(reader, text)
    return reader.result()


class MapReader:
    """Takes the lines of the text of a map room, up to the first that cannot stand."""

    def __init__(self):
        self._reader = RoomReader()
        self._claims = []

    def is_in_sheet(self):
        """Whether the sheet of an earlier line has not come to its end."""
        return self._reader.is_in_sheet()

    def result(self):
        """The map room of all lines, which do not stop within a sheet."""
        return map_room_of(self._reader.result(), self._claims)

    def take(self, line):
        """Takes the next line in; returns why it cannot stand, None if it can."""
        if line.startswith("told ") and not self.is_in_sheet():
            return self._take_told(line.removeprefix("told "))
        return self._reader.take(line) if self._claims == [] else "form"

    def _take_told(self, text):
        claim = _plain_claim(self._reader.result(), text)
        if claim is None:
            return "claim"
        if len(self._claims) == MOST_TOLD:
            return "many"
        self._claims.append(claim)
        return None


def _plain_claim(room, text):
    """The plain claim of the room with a text; None if it is the text of none."""
    try:
        claim = read_claim(room, text)
    except InvalidClaim:
        return None
    return claim if is_plain(claim) else None
