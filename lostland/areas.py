"""Areas in lands, their quotients, and the scales of sheets by one another."""

from lostland.errors import InvalidPoint, NoArea, UnknownSheet
from lostland.exact import ZERO, divided, times
from lostland.pairing import pair_values
from lostland.points import is_point
from lostland.seeking import land_without
from lostland.whole import check_stands

_CORNER = (((0, 1), (0, 1)), ((1, 1), (0, 1)), ((0, 1), (1, 1)))


def area(land, triple):
    """The area of three points in a land."""
    _check_triples(land.room, [triple])
    return land.step_table(_line(triple)).det


def quotient(space, triple, other):
    """The quotient of the areas of two triples; None if it is not known."""
    _check_triples(space.room, [triple, other])
    return _quotient_of(space, triple, other)


def quotient_lands(space, triple, other):
    """Two whole lands in which the quotients differ; None if the quotient is known."""
    _check_triples(space.room, [triple, other])
    return _lands_of(space, triple, other)


def scale(space, one, other):
    """The scale of a sheet by another one; None if it is not known."""
    _check_names(space.room, [one, other])
    return _quotient_of(space, _corner(one), _corner(other))


def scale_lands(space, one, other):
    """Two whole lands in which the scales differ; None if the scale is known."""
    _check_names(space.room, [one, other])
    return _lands_of(space, _corner(one), _corner(other))


def _check_triples(room, triples):
    """Raises for the first item that is no point of the room."""
    for triple in triples:
        for value in triple:
            if not is_point(room, value):
                raise InvalidPoint(value)


def _check_names(room, names):
    """Raises for the first value that is no name of a sheet."""
    for name in names:
        if name not in room:
            raise UnknownSheet(name)


def _line(triple):
    """The claim that the area of a triple is 0."""
    return ("line", *triple)


def _corner(name):
    """Three points on a sheet whose area is the determinant of its table."""
    return tuple([("spot", name, spot) for spot in _CORNER])


def _quotient_of(space, triple, other):
    """The quotient of the areas of two triples of points; None if it is not known."""
    check_stands(space)
    values, others = _values(space, triple), _values(space, other)
    some = [key for key in others if others[key] != ZERO]
    if some == []:
        raise NoArea()
    ratio = divided(values[some[0]], others[some[0]])
    return ratio if _keys_off(values, others, ratio) == [] else None


def _lands_of(space, triple, other):
    """Two whole lands in which the quotients differ; None if the quotient is known."""
    if _quotient_of(space, triple, other) is not None:
        return None
    land = land_without(space, [_line(other)])
    ratio = _quotient_in(land, triple, other)
    step = _land_off(space, triple, other, ratio)
    further = land + step
    # Only a few multiples of the step crush a sheet, lose the second area or have the same quotient.
    while not further.is_whole or _quotient_in(further, triple, other) in (None, ratio):
        further = further + step
    return (land, further)


def _quotient_in(land, triple, other):
    """The quotient of the areas of two triples in a land; None if the second one is 0."""
    under = area(land, other)
    return None if under == ZERO else divided(area(land, triple), under)


def _land_off(space, triple, other, ratio):
    """A land in which the first area is not the ratio times the second one."""
    base = space.base()
    off = _keys_off(_values(space, triple), _values(space, other), ratio)
    for one, another in off:
        if one == another:
            return base[one]
    # Where it is so in each land of the base, it is not so in the sum of such two.
    return base[off[0][0]] + base[off[0][1]]


def _values(space, triple):
    """The pair values of the tables whose determinants are the areas, over the base."""
    return pair_values([land.step_table(_line(triple)) for land in space.base()])


def _keys_off(values, others, ratio):
    """The keys of the values that are not the ratio times the others."""
    return [key for key in values if values[key] != times(others[key], ratio)]
