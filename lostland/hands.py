"""Hands of sheets, and the papers that show them."""

from lostland.errors import UnknownSheet
from lostland.exact import ZERO, divided, is_fraction, is_pair, negative, plus, sign, times
from lostland.forms import entry_form, is_form
from lostland.pairing import pair_value, pair_values
from lostland.pressing import regular_of
from lostland.weights import mixture
from lostland.whole import check_stands, whole_land

_HALF = (1, 2)


def hand(space, name):
    """The hand of a sheet: right, left or either."""
    _check(space, name)
    check_stands(space)
    return _word_of(_parts(space, name), name)


def hand_paper(space, name):
    """A hand paper that begins with the hand of a sheet."""
    _check(space, name)
    check_stands(space)
    parts = _parts(space, name)
    word = _word_of(parts, name)
    if word == "either":
        return (word, *_opposite_lands(space, parts, name))
    turn = 1 if word == "right" else -1
    tables = [part.motion(name).table for part in parts]
    return (word, tuple([(times(table.det, (turn, 1)), _share_form(space.room, name, table))
                         for table in tables]))


def is_hand_paper(space, name, value):
    """Whether any value is a hand paper of a sheet."""
    _check(space, name)
    if not isinstance(value, tuple) or value == ():
        return False
    if value[0] == "either" and len(value) == 3:
        return (all([space.has(land) and land.is_whole for land in value[1:]])
                and sign(_det(value[1], name)) > 0 and sign(_det(value[2], name)) < 0)
    if value[0] not in ("right", "left") or len(value) != 2:
        return False
    if not _are_squares(space.room, value[1]):
        return False
    return _are_right(space, name, value[1], 1 if value[0] == "right" else -1)


def _check(space, name):
    """Raises unless the sheet is one of the room."""
    if name not in space.room:
        raise UnknownSheet(name)


def _det(land, name):
    """The determinant of a sheet in a land."""
    return land.motion(name).table.det


def _word_of(parts, name):
    """The hand of a sheet whose determinant parts so."""
    signs = [sign(_det(part, name)) for part in parts]
    if -1 not in signs:
        return "right"
    return "either" if 1 in signs else "left"


def _parts(space, name):
    """Lands, so that the determinant of a sheet in each land is a sum of squares times theirs.

    None of their determinants is 0, and what is squared are the shares of the lands.
    """
    rest = space.base()
    found = []
    part = regular_of(rest, [land.motion(name).table for land in rest])
    while part is not None:
        found.append(part)
        rest = [_without_share(land, part, name) for land in rest]
        part = regular_of(rest, [land.motion(name).table for land in rest])
    return found


def _without_share(land, part, name):
    """The land minus a multiple of the part, so that the determinant of the sum is that of both."""
    table = part.motion(name).table
    both = pair_value(table, land.motion(name).table)
    return land - part.scaled(times(divided(both, table.det), _HALF))


def _share_form(room, name, table):
    """The form that tells how much of the table is in that of a sheet; 1 for the table itself."""
    a, b, c, d = table.entries()
    weights = [[d, negative(c)], [negative(b), a]]
    under = divided(_HALF, table.det)
    return mixture([(times(weights[row][column], under), entry_form(room, name, row, column))
                    for row in (0, 1) for column in (0, 1)])


def _opposite_lands(space, parts, name):
    """Two whole lands with determinants of a sheet above and below 0."""
    land = whole_land(space)
    turn = sign(_det(land, name))
    step = [part for part in parts if sign(_det(part, name)) == -turn][0]
    other = land + step
    # The step outweighs the land once it is doubled often enough.
    while not other.is_whole or sign(_det(other, name)) == turn:
        step = step.scaled((2, 1))
        other = land + step
    return (land, other) if turn > 0 else (other, land)


def _are_squares(room, value):
    """Whether any value is a tuple of pairs of a weight above 0 and a form of the room."""
    if not isinstance(value, tuple) or not all([is_pair(pair) for pair in value]):
        return False
    return all([is_fraction(weight) and sign(weight) > 0 and is_form(room, form)
                for weight, form in value])


def _are_right(space, name, squares, turn):
    """Whether the weighted squares of forms are the determinant of a sheet times 1 or -1."""
    base = space.base()
    dets = pair_values([land.motion(name).table for land in base])
    values = [(weight, [land.at_form(form) for land in base]) for weight, form in squares]
    return all([_pair_of(values, key) == times(dets[key], (turn, 1)) for key in dets])


def _pair_of(values, key):
    """What the weighted squares of sums give for a pair of lands, as pair values do."""
    one, other = key
    total = ZERO
    for weight, own in values:
        total = plus(total, times(weight, times(own[one], own[other])))
    return times(total, (2, 1))
