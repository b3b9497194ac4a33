"""Determinants of sums of tables."""

from lostland.exact import minus, plus, times


def pair_value(one, other):
    """The determinant of the sum of two tables minus the determinants of both."""
    return minus(plus(times(one.a, other.d), times(one.d, other.a)),
                 plus(times(one.b, other.c), times(one.c, other.b)))


def pair_values(tables):
    """A dict from pairs of indexes, the first one not above the second one, to pair values.

    They tell the determinants of all sums of multiples of the tables.
    """
    return {(below, at): pair_value(tables[below], one)
            for at, one in enumerate(tables) for below in range(at + 1)}
