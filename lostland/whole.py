"""Whole lands, and the sheets that all lands press flat."""

from lostland.errors import NoLand, UnknownSheet
from lostland.exact import ZERO
from lostland.lands import zero_land
from lostland.pressing import common_press


def press(space, name):
    """The press of a sheet; None if it is not pressed."""
    if name not in space.room:
        raise UnknownSheet(name)
    return common_press([land.motion(name).table for land in space.base()])


def pressed(space):
    """The list of the names of the pressed sheets, in order."""
    base = space.base()
    return [name for name in space.room.names()
            if common_press([land.motion(name).table for land in base]) is not None]


def stands(space):
    """Whether a space stands."""
    return pressed(space) == []


def check_stands(space):
    """Raises for the first pressed sheet of a space that does not stand."""
    names = pressed(space)
    if names != []:
        raise NoLand(names[0])


def mixed(one, other):
    """The pair (c, one + c other) with the least c from 1 on that crushes only what both crush."""
    factor, land = 1, one + other
    lost = [name for name in one.crushed() if name in other.crushed()]
    while not all([name in lost for name in land.crushed()]):
        factor, land = factor + 1, land + other
    return (factor, land)


def whole_land(space):
    """A whole land of a space that stands."""
    check_stands(space)
    base = space.base()
    land = zero_land(space.room)
    for name in space.room.names():
        if name in land.crushed():
            land = mixed(land, _land_good_for(base, name))[1]
    return land


def _land_good_for(base, name):
    """A land that does not crush a sheet that is not pressed."""
    land = _first_good(base, name)
    if land is None:
        # Where each land of the base crushes the sheet, two of them together do not.
        pairs = [one + other for at, one in enumerate(base) for other in base[at + 1:]]
        land = _first_good(pairs, name)
    return land


def _first_good(lands, name):
    """The first of the lands that does not crush a sheet; None if there is none."""
    for land in lands:
        if land.motion(name).table.det != ZERO:
            return land
    return None
