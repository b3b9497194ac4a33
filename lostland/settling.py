"""Readings that are seen in a land, and the fewest of them that settle a saying."""

from lostland.claims import check_saying
from lostland.errors import InvalidLand, InvalidReading, TooMany
from lostland.exact import is_pair
from lostland.judging import judge
from lostland.spaces import Space

_MOST_PAIRS = 6


def with_seen(space, land, pairs):
    """The space with pairs (sheet, mark) seen in a whole land."""
    _check_seen(space, land, pairs)
    return _seen(space, land, pairs)


def settle(space, saying, *, land, among):
    """The fewest of some pairs that, seen in the land, settle a saying; None if all do not."""
    check_saying(space.room, saying)
    _check_seen(space, land, among)
    for size in range(len(among) + 1):
        for places in _choices(len(among), size):
            pairs = [among[at] for at in places]
            if judge(_seen(space, land, pairs), saying) in ("surely", "never"):
                return pairs
    return None


def _check_seen(space, land, pairs):
    """Raises unless the land is a whole one and the pairs can be seen in it."""
    if not space.has(land) or not land.is_whole:
        raise InvalidLand()
    if not isinstance(pairs, (list, tuple)):
        raise InvalidReading(-1)
    if len(pairs) > _MOST_PAIRS:
        raise TooMany(_MOST_PAIRS)
    for at, value in enumerate(pairs):
        if not _can_be_seen(space.room, value) or value in pairs[:at]:
            raise InvalidReading(at)


def _can_be_seen(room, value):
    """Whether any value is a pair of a sheet and a mark that the sheet does not read."""
    if not is_pair(value) or value[0] not in room or value[1] not in room.marks():
        return False
    return value[1] not in room.sheet(value[0])


def _seen(space, land, pairs):
    """The space with the readings of pairs at their spots in the land."""
    room = space.room
    for name, mark in pairs:
        room = room.with_reading(name, mark, land.spot(("mark", mark), name))
    return Space(room, told=space.told())


def _choices(many, size):
    """The lists of so many different indexes below many, each ascending, in ascending order."""
    found = [[]]
    for _ in range(size):
        found = [places + [at] for places in found
                 for at in range(places[-1] + 1 if places != [] else 0, many)]
    return found
