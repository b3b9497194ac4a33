"""Whole lands, and the sheets that all lands press flat."""

from lostland.errors import NoLand, UnknownSheet
from lostland.lands import zero_land
from lostland.pressing import common_press, regular_of


def press(space, name):
    """The press of a sheet; None if it is not pressed."""
    if name not in space.room:
        raise UnknownSheet(name)
    return common_press([land.motion(name).table for land in space.base()])


def pressed(space):
    """The list of the names of the pressed sheets, in order."""
    base = space.base()
    return [name for name in space.room.names()
            if common_press([land.motion(name).table for land in base]) is not None]


def stands(space):
    """Whether a space stands."""
    return pressed(space) == []


def check_stands(space):
    """Raises for the first pressed sheet of a space that does not stand."""
    names = pressed(space)
    if names != []:
        raise NoLand(names[0])


def mixed(one, other):
    """The pair (c, one + c other) with the least c from 1 on that crushes only what both crush."""
    factor, land = 1, one + other
    lost = [name for name in one.crushed() if name in other.crushed()]
    while not all([name in lost for name in land.crushed()]):
        factor, land = factor + 1, land + other
    return (factor, land)


def whole_land(space):
    """A whole land of a space that stands."""
    check_stands(space)
    base = space.base()
    land = zero_land(space.room)
    for name in space.room.names():
        if name in land.crushed():
            tables = [one.motion(name).table for one in base]
            land = mixed(land, regular_of(base, tables))[1]
    return land
