"""The unknowns of a room, and forms over them."""

from lostland.claims import gap_parts, steps_of
from lostland.exact import ONE
from lostland.kinds import entry_part, own_count
from lostland.weights import is_key, is_mixture, mixture, put_together

AXES = (0, 1)
_LESS = (-1, 1)


def unknowns(room):
    """The ascending list of the unknowns."""
    found = {("move", name, axis): True for name in room.names() for axis in AXES}
    for mark in room.marks():
        for axis in AXES:
            found[("place", mark, axis)] = True
    for sheet in room:
        # All even sheets have the one scale.
        for unknown in own_unknowns(sheet):
            found[unknown] = True
    return sorted(list(found))


def is_unknown(room, value):
    """Whether any value is an unknown of the room."""
    return is_key(value) and value in unknowns(room)


def is_form(room, value):
    """Whether any value is a form over the unknowns of the room."""
    return is_mixture(value, unknowns(room))


def own_unknowns(sheet):
    """The unknowns that are the own numbers of the table of a sheet, in order."""
    if sheet.kind == "even":
        return [("scale",)]
    return [("table", sheet.name, own) for own in range(own_count(sheet.kind))]


def entry_form(room, name, row, column):
    """The form of an entry of the table of a sheet."""
    sheet = room.sheet(name)
    own, weight = entry_part(sheet.kind, row, column)
    return put_together([(own_unknowns(sheet)[own], weight)])


def place_form(room, point, axis):
    """The form of a coordinate of the place of a point."""
    if point[0] == "mark":
        return ((("place", point[1], axis), ONE),)
    _, name, (x, y) = point
    move = ((("move", name, axis), ONE),)
    return mixture([(ONE, move), (x, entry_form(room, name, axis, 0)),
                    (y, entry_form(room, name, axis, 1))])


def form_plus(one, other):
    """The sum of two forms."""
    return mixture([(ONE, one), (ONE, other)])


def form_times(form, weight):
    """The multiple of a form by a fraction."""
    return mixture([(weight, form)])


def form_minus(one, other):
    """The difference of two forms."""
    return mixture([(ONE, one), (_LESS, other)])


def gap_form(room, claim, axis):
    """The form of a coordinate of the gap of a plain claim."""
    return mixture([(weight, place_form(room, point, axis))
                    for weight, point in gap_parts(claim)])


def press_form(room, name, side, direction, axis):
    """The form that a crushed paper with this direction asks for its sum with this index."""
    parts = []
    for at in AXES:
        entry = (axis, at) if side == "spot" else (at, axis)
        parts.append(((direction[at], 1), entry_form(room, name, entry[0], entry[1])))
    return mixture(parts)


def bond_form(room, claim, word, direction, axis):
    """The form that a ground of a claim line or side asks for its sum with this index."""
    steps = steps_of(claim)
    parts = []
    for at in AXES:
        # A ratio mixes the two steps; a direction mixes the coordinates of one of them.
        step, coordinate = (steps[at], axis) if word == "ratio" else (steps[axis], at)
        parts.append(((direction[at], 1), _step_form(room, step, coordinate)))
    return mixture(parts)


def _step_form(room, step, axis):
    """The form of a coordinate of the step from one point to another one."""
    start, end = step
    return form_minus(place_form(room, end, axis), place_form(room, start, axis))
