"""Points of a room: its marks, and the spots of its sheets."""

from lostland.errors import InvalidPoint
from lostland.exact import fraction_text, is_spot, read_fraction
from lostland.names import is_name


def is_any_point(value):
    """Whether any value is a point of some room."""
    if not isinstance(value, tuple):
        return False
    if len(value) == 2:
        return value[0] == "mark" and is_name(value[1])
    return len(value) == 3 and value[0] == "spot" and is_name(value[1]) and is_spot(value[2])


def is_point(room, value):
    """Whether any value is a point of the room."""
    if not is_any_point(value):
        return False
    return value[1] in (room.marks() if value[0] == "mark" else room.names())


def point_text(point):
    """The text of a point."""
    if point[0] == "mark":
        return point[1]
    x, y = point[2]
    return f"{point[1]}:{fraction_text(x)}:{fraction_text(y)}"


def any_point_of(text):
    """The point of some room with a text; None for any value that is no text of one."""
    if is_name(text):
        return ("mark", text)
    words = text.split(":") if isinstance(text, str) else []
    if len(words) != 3 or not is_name(words[0]):
        return None
    x, y = read_fraction(words[1]), read_fraction(words[2])
    return None if x is None or y is None else ("spot", words[0], (x, y))


def read_point(room, text):
    """The point of the room with a text."""
    point = any_point_of(text)
    if not is_point(room, point):
        raise InvalidPoint(text)
    return point
