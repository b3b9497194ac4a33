"""Tables of four fractions, which take vectors to vectors."""

from lostland.errors import InvalidFraction, InvalidSpot, Singular
from lostland.exact import (
    ONE, ZERO, divided, fraction_text, is_fraction, is_spot, minus, negative, plus, times)


class Table:
    """The rows (a, b) and (c, d)."""

    def __init__(self, a, b, c, d):
        for value in (a, b, c, d):
            if not is_fraction(value):
                raise InvalidFraction(value)
        self.a = a
        self.b = b
        self.c = c
        self.d = d

    @staticmethod
    def identity():
        """The table that takes each vector to itself."""
        return Table(ONE, ZERO, ZERO, ONE)

    @staticmethod
    def zero():
        """The table that takes each vector to the zero vector."""
        return Table(ZERO, ZERO, ZERO, ZERO)

    @property
    def det(self):
        """The determinant."""
        return minus(times(self.a, self.d), times(self.b, self.c))

    def entries(self):
        """The tuple (a, b, c, d)."""
        return (self.a, self.b, self.c, self.d)

    def __call__(self, vector):
        """The vector to which a vector is taken."""
        if not is_spot(vector):
            raise InvalidSpot(vector)
        return taken(self, vector)

    def __add__(self, other):
        return Table(plus(self.a, other.a), plus(self.b, other.b),
                     plus(self.c, other.c), plus(self.d, other.d))

    def __sub__(self, other):
        return Table(minus(self.a, other.a), minus(self.b, other.b),
                     minus(self.c, other.c), minus(self.d, other.d))

    def __neg__(self):
        return Table(negative(self.a), negative(self.b), negative(self.c), negative(self.d))

    def __mul__(self, other):
        """The product; it takes a vector through the other table first."""
        left = taken(self, (other.a, other.c))
        right = taken(self, (other.b, other.d))
        return columns(left, right)

    def scaled(self, weight):
        """The multiple by a fraction."""
        return Table(times(self.a, weight), times(self.b, weight),
                     times(self.c, weight), times(self.d, weight))

    def inverse(self):
        """The inverse table."""
        det = self.det
        if det == ZERO:
            raise Singular()
        return Table(self.d, negative(self.b), negative(self.c), self.a).scaled(divided(ONE, det))

    def __eq__(self, other):
        return isinstance(other, Table) and self.entries() == other.entries()

    def __repr__(self):
        return f"Table({', '.join([fraction_text(entry) for entry in self.entries()])})"


def taken(table, vector):
    """The vector to which a table takes a vector that surely is one."""
    x, y = vector
    return (plus(times(table.a, x), times(table.b, y)), plus(times(table.c, x), times(table.d, y)))


def columns(left, right):
    """The table with two vectors as its columns."""
    return Table(left[0], right[0], left[1], right[1])
