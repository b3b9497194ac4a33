"""Motions: a table, and a move behind it."""

from lostland.errors import InLine, InvalidSpot
from lostland.exact import ZERO, is_spot, vector_minus, vector_plus, vector_times
from lostland.tables import Table, columns, taken


class Motion:
    """Takes a spot to the table times the spot, plus the move."""

    def __init__(self, table, move=(ZERO, ZERO)):
        if not is_spot(move):
            raise InvalidSpot(move)
        self.table = table
        self.move = move

    @staticmethod
    def identity():
        """The motion that leads each spot to itself."""
        return Motion(Table.identity())

    def __call__(self, spot):
        """The spot to which a spot is taken."""
        if not is_spot(spot):
            raise InvalidSpot(spot)
        return moved_spot(self, spot)

    def __mul__(self, other):
        """The product; it takes a spot through the other motion first."""
        return Motion(self.table * other.table, moved_spot(self, other.move))

    def inverse(self):
        """The inverse motion."""
        back = self.table.inverse()
        return Motion(back, vector_times(taken(back, self.move), (-1, 1)))

    def __eq__(self, other):
        return isinstance(other, Motion) and self.table == other.table and self.move == other.move


def moved_spot(motion, spot):
    """The spot to which a motion takes a spot that surely is one."""
    return vector_plus(taken(motion.table, spot), motion.move)


def motion_of(spots, images):
    """The only motion that takes three spots that are not in line to three images."""
    steps = _steps(spots)
    if steps.det == ZERO:
        raise InLine()
    table = _steps(images) * steps.inverse()
    return Motion(table, vector_minus(images[0], taken(table, spots[0])))


def _steps(spots):
    """The table whose columns lead from the first of three spots to the two others."""
    return columns(vector_minus(spots[1], spots[0]), vector_minus(spots[2], spots[0]))
