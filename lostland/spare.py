"""Spare readings, which follow from the others, and spaces that are stripped of them."""

from lostland.errors import UnknownReading
from lostland.forms import AXES
from lostland.sums import row_form


def is_spare(space, name, mark):
    """Whether a reading is spare."""
    less = space.without(name, mark)
    return all([less.follows(form) for form in _forms(space, name, mark)])


def spare(space):
    """The list of the spare readings, in order."""
    return [(name, mark) for name, mark in space.room.readings() if is_spare(space, name, mark)]


def spare_sums(space, name, mark):
    """Sums of the other rows with the forms of those of a reading; None if it is not spare."""
    less = space.without(name, mark)
    forms = _forms(space, name, mark)
    if not all([less.follows(form) for form in forms]):
        return None
    return (less.sum_for(forms[0]), less.sum_for(forms[1]))


def stripped(space, order=None):
    """The space without the readings that are spare when their turn in the order comes."""
    readings = space.room.readings()
    pairs = readings if order is None else order
    for name, mark in pairs:
        if (name, mark) not in readings:
            raise UnknownReading(name, mark)
    rest = space
    for at, (name, mark) in enumerate(pairs):
        if (name, mark) not in pairs[:at] and is_spare(rest, name, mark):
            rest = rest.without(name, mark)
    return rest


def _forms(space, name, mark):
    """The forms of the two rows of a reading."""
    return [row_form(space.room, ("reading", name, mark, axis), space.told()) for axis in AXES]
