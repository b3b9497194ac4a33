"""Deeds, which change a room and its told claims."""

from lostland.claims import is_plain, points_of, read_claim
from lostland.errors import InUse, InvalidClaim, InvalidDeed, TooMany, UnknownClaim
from lostland.exact import is_number

MOST_TOLD = 8
# How many items the deeds with a word have.
_ITEMS = {"sheet": 2, "off": 2, "read": 4, "strike": 3, "kind": 3, "mark": 2, "unmark": 2,
          "tell": 2, "untell": 2}


def check_deeds(deeds):
    """Raises for the first value that is no deed."""
    for at, value in enumerate(deeds):
        if not _is_deed(value):
            raise InvalidDeed(at)


def behind(room, told, deeds):
    """The pair of the room and the list of told claims behind some deeds."""
    for deed in deeds:
        if deed[0] in ("tell", "untell"):
            told = _told_behind(room, told, deed)
        else:
            room = _room_behind(room, told, deed)
    return (room, told)


def _is_deed(value):
    """Whether any value is a tuple of one of the words and as many items as belong to it."""
    if not isinstance(value, tuple) or value == () or not isinstance(value[0], str):
        return False
    return len(value) == _ITEMS.get(value[0], 0)


def _room_behind(room, told, deed):
    """The room behind a deed that changes the room."""
    word, *parts = deed
    if word == "sheet":
        return room.with_sheet(parts[0])
    if word == "off":
        return _without_sheet(room, told, parts[0])
    if word == "read":
        return room.with_reading(parts[0], parts[1], parts[2])
    if word == "strike":
        return room.without(parts[0], parts[1])
    if word == "kind":
        return room.with_sheet(room.sheet(parts[0]).of_kind(parts[1]))
    if word == "mark":
        return room.with_mark(parts[0])
    return _without_mark(room, told, parts[0])


def _without_sheet(room, told, name):
    """The room without a sheet on which no told claim has a point."""
    less = room.without_sheet(name)
    if any([point[:2] == ("spot", name) for point in _told_points(told)]):
        raise InUse(name)
    return less


def _without_mark(room, told, mark):
    """The room without a loose mark that no told claim has."""
    less = room.without_mark(mark)
    if ("mark", mark) in _told_points(told):
        raise InUse(mark)
    return less


def _told_points(told):
    """The points of the told claims."""
    return [point for claim in told for point in points_of(claim)]


def _told_behind(room, told, deed):
    """The list of told claims behind a deed that changes it."""
    word, value = deed
    if word == "untell":
        if not is_number(value) or not 0 <= value < len(told):
            raise UnknownClaim(value)
        return told[:value] + told[value + 1:]
    claim = read_claim(room, value)
    if not is_plain(claim):
        raise InvalidClaim(0, "form")
    if len(told) == MOST_TOLD:
        raise TooMany(MOST_TOLD)
    return told + [claim]
