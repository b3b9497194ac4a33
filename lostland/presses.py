"""Crushed papers, which show that a space does not stand."""

from lostland.exact import is_direction
from lostland.forms import AXES, press_form
from lostland.sums import is_sum_for
from lostland.whole import press, pressed


def crushed_paper(space):
    """A crushed paper with the first pressed sheet; None if the space stands."""
    names = pressed(space)
    if names == []:
        return None
    name = names[0]
    side, across = press(space, name)
    sums = [space.sum_for(press_form(space.room, name, side, across, axis)) for axis in AXES]
    return ("crushed", name, side, across, sums[0], sums[1])


def is_crushed_paper(space, value):
    """Whether any value is a crushed paper."""
    if not isinstance(value, tuple) or len(value) != 6 or value[0] != "crushed":
        return False
    _, name, side, across, *sums = value
    if name not in space.room or side not in ("spot", "land") or not is_direction(across):
        return False
    return all([is_sum_for(space.room, sums[axis],
                           press_form(space.room, name, side, across, axis), space.told())
                for axis in AXES])
