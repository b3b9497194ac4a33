"""The rows of a space, their keys, and sums of rows."""

from lostland.errors import InvalidSum, UnknownRow
from lostland.exact import ONE
from lostland.forms import AXES, form_minus, gap_form, place_form
from lostland.weights import is_key, is_mixture, mixture


def row_keys(room, told=()):
    """The list of the keys of the rows, in order."""
    keys = [("reading", name, mark, axis) for name, mark in room.readings() for axis in AXES]
    return keys + [("told", at, axis) for at in range(len(told)) for axis in AXES]


def is_row_key(room, value, told=()):
    """Whether any value is the key of a row."""
    return is_key(value) and value in row_keys(room, told)


def row_form(room, key, told=()):
    """The form of a row."""
    if not is_row_key(room, key, told):
        raise UnknownRow(key)
    return form_of_row(room, key, told)


def form_of_row(room, key, told):
    """The form of the row with a key that surely is one."""
    if key[0] == "told":
        return gap_form(room, told[key[1]], key[2])
    _, name, mark, axis = key
    point = ("spot", name, room.sheet(name).spot(mark))
    return form_minus(place_form(room, point, axis), place_form(room, ("mark", mark), axis))


def is_sum(room, value, told=()):
    """Whether any value is a sum."""
    return is_mixture(value, row_keys(room, told))


def sum_form(room, value, told=()):
    """The form of a sum."""
    if not is_sum(room, value, told):
        raise InvalidSum()
    return mixture([(weight, form_of_row(room, key, told)) for key, weight in value])


def is_sum_for(room, value, form, told=()):
    """Whether any value is a sum with this form."""
    return is_sum(room, value, told) and sum_form(room, value, told) == form


def sum_plus(one, other):
    """The sum whose form is the sum of the forms of two sums."""
    return mixture([(ONE, one), (ONE, other)])


def sum_times(one, weight):
    """The sum whose form is the multiple of the form of a sum by a fraction."""
    return mixture([(weight, one)])
