"""Points of a room: its marks, and the spots of its sheets."""

from lostland.errors import InvalidPoint
from lostland.exact import fraction_text, is_spot, read_fraction


def is_point(room, value):
    """Whether any value is a point of the room."""
    if not isinstance(value, tuple):
        return False
    if len(value) == 2:
        return value[0] == "mark" and value[1] in room.marks()
    return len(value) == 3 and value[0] == "spot" and value[1] in room and is_spot(value[2])


def point_text(point):
    """The text of a point."""
    if point[0] == "mark":
        return point[1]
    x, y = point[2]
    return f"{point[1]}:{fraction_text(x)}:{fraction_text(y)}"


def read_point(room, text):
    """The point of the room with a text."""
    if not isinstance(text, str):
        raise InvalidPoint(text)
    if text in room.marks():
        return ("mark", text)
    words = text.split(":")
    if len(words) == 3 and words[0] in room:
        x, y = read_fraction(words[1]), read_fraction(words[2])
        if x is not None and y is not None:
            return ("spot", words[0], (x, y))
    raise InvalidPoint(text)
