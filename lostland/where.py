"""Where the points of a space lie on its sheets."""

from lostland.errors import InvalidPoint, UnknownSheet
from lostland.exact import ZERO, is_spot
from lostland.forms import AXES, form_minus, place_form
from lostland.points import is_point
from lostland.sums import is_sum_for
from lostland.whole import mixed, whole_land


def where(space, point, *, on):
    """The spot at which a point is known on a sheet; None if it is not known."""
    _check(space, point, on)
    return _known_spot(space, whole_land(space), point, on)


def known_on(space, point):
    """The list of the names of the sheets on which a point is known, in order."""
    if not is_point(space.room, point):
        raise InvalidPoint(point)
    return list(_known_spots(space, whole_land(space), point))


def index_of(space):
    """A dict from the marks to dicts from the sheets on which they are known to the spots."""
    land = whole_land(space)
    return {mark: _known_spots(space, land, ("mark", mark)) for mark in space.room.marks()}


def where_paper(space, point, *, on):
    """A where paper for a point and a sheet."""
    _check(space, point, on)
    land = whole_land(space)
    spot = land.spot(point, on)
    forms = _apart_forms(space.room, point, on, spot)
    if all([space.follows(form) for form in forms]):
        return ("known", spot, space.sum_for(forms[0]), space.sum_for(forms[1]))
    return ("open", land, _other_land(space, land, forms))


def is_where_paper(space, point, value, *, on):
    """Whether any value is a where paper for a point and a sheet."""
    _check(space, point, on)
    if not isinstance(value, tuple) or value == ():
        return False
    if value[0] == "open" and len(value) == 3:
        return (all([space.has(land) and land.is_whole for land in value[1:]])
                and value[1].spot(point, on) != value[2].spot(point, on))
    if value[0] != "known" or len(value) != 4 or not is_spot(value[1]):
        return False
    forms = _apart_forms(space.room, point, on, value[1])
    return all([is_sum_for(space.room, value[2 + axis], forms[axis], space.told())
                for axis in AXES])


def _check(space, point, on):
    """Raises unless the point and the sheet are those of the room."""
    if not is_point(space.room, point):
        raise InvalidPoint(point)
    if on not in space.room:
        raise UnknownSheet(on)


def _known_spots(space, land, point):
    """A dict from the sheets on which a point is known, in order, to the spots."""
    spots = {name: _known_spot(space, land, point, name) for name in space.room.names()}
    return {name: spots[name] for name in spots if spots[name] is not None}


def _known_spot(space, land, point, name):
    """The spot at which a point is known on a sheet, where the land is a whole one."""
    spot = land.spot(point, name)
    forms = _apart_forms(space.room, point, name, spot)
    return spot if all([space.follows(form) for form in forms]) else None


def _apart_forms(room, point, name, spot):
    """The forms of the place of a point minus that of a spot on a sheet."""
    return [form_minus(place_form(room, point, axis),
                       place_form(room, ("spot", name, spot), axis)) for axis in AXES]


def _other_land(space, land, forms):
    """A whole land in which one of the forms, which are 0 in the given one, is not 0."""
    for other in space.base():
        if not all([other.at_form(form) == ZERO for form in forms]):
            return mixed(land, other)[1]
    return None
