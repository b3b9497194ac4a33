"""Directions along which all of some tables press flat."""

from lostland.exact import ZERO, direction, negative
from lostland.tables import columns

_NOTHING = ((0, 1), (0, 1))


def common_press(tables):
    """("spot", n) with A n = 0 for all of the tables, otherwise ("land", m) with m A = 0.

    None if there is neither; then not all sums of multiples of the tables are singular.
    """
    entries = [table.entries() for table in tables]
    rows = [row for a, b, c, d in entries for row in ((a, b), (c, d))]
    if _are_side_by_side(rows):
        return ("spot", _across(rows))
    sides = [side for a, b, c, d in entries for side in ((a, c), (b, d))]
    if _are_side_by_side(sides):
        return ("land", _across(sides))
    return None


def regular_of(lands, tables):
    """One of the lands, or the sum of two, whose table is not singular, from a table for each land.

    None if there is none; then all sums of multiples of the tables are singular.
    """
    for land, table in zip(lands, tables):
        if table.det != ZERO:
            return land
    for at, one in enumerate(tables):
        for below in range(at):
            if (tables[below] + one).det != ZERO:
                return lands[below] + lands[at]
    return None


def _are_side_by_side(vectors):
    """Whether all vectors are multiples of one."""
    some = [vector for vector in vectors if vector != _NOTHING]
    return all([columns(some[0], vector).det == ZERO for vector in some])


def _across(vectors):
    """The direction that is across to multiples of one vector, or (1, 0) if all are zero."""
    for x, y in vectors:
        if (x, y) != _NOTHING:
            return direction((y, negative(x)))
    return (1, 0)
