"""Lands: places of the marks, and motions that lead from the sheets to them."""

from lostland.claims import check_claim, gap_parts, steps_of
from lostland.errors import (
    Crushed, Disagrees, InvalidPoint, NotOfKind, OtherRoom, UnknownKey, UnknownMark, UnknownSheet)
from lostland.exact import (
    ZERO, minus, plus, times, vector_minus, vector_plus, vector_times)
from lostland.forms import AXES, is_unknown, own_unknowns, unknowns
from lostland.kinds import own_numbers, table_of
from lostland.motions import Motion, moved_spot
from lostland.points import is_point
from lostland.tables import columns

_ORIGIN = ((0, 1), (0, 1))


class Land:
    """A land of a room, known by the values of the unknowns."""

    def __init__(self, room, values):
        self.room = room
        self._values = {unknown: values[unknown] for unknown in values}

    def place(self, point):
        """The place of a point."""
        if not is_point(self.room, point):
            raise InvalidPoint(point)
        if point[0] == "mark":
            return self._pair("place", point[1])
        return moved_spot(self.motion(point[1]), point[2])

    def motion(self, name):
        """The motion of a sheet."""
        sheet = self.room.sheet(name)
        numbers = [self._values[unknown] for unknown in own_unknowns(sheet)]
        return Motion(table_of(sheet.kind, numbers), self._pair("move", name))

    def value_of(self, unknown):
        """The value of an unknown."""
        if not is_unknown(self.room, unknown):
            raise UnknownKey(unknown)
        return self._values[unknown]

    def at_form(self, form):
        """The value of a form."""
        total = ZERO
        for unknown, weight in form:
            total = plus(total, times(self._values[unknown], weight))
        return total

    def spot(self, point, name):
        """The spot of a point on a sheet."""
        place = self.place(point)
        motion = self.motion(name)
        if motion.table.det == ZERO:
            raise Crushed(name)
        return moved_spot(motion.inverse(), place)

    def crushed(self):
        """The list of the names of the sheets that the land crushes, in order."""
        return [name for name in self.room.names() if self.motion(name).table.det == ZERO]

    @property
    def is_whole(self):
        """Whether the land crushes no sheet."""
        return self.crushed() == []

    def holds(self, claim):
        """Whether a claim holds in the land."""
        check_claim(self.room, claim)
        if claim[0] == "not":
            return self._gap(claim[1]) != _ORIGIN
        if claim[0] in ("line", "side"):
            return self.step_table(claim).det == ZERO
        return self._gap(claim) == _ORIGIN

    def step_table(self, claim):
        """The table with the steps of a claim line or side as its columns."""
        left, right = [vector_minus(self.place(end), self.place(start))
                       for start, end in steps_of(claim)]
        return columns(left, right)

    def _gap(self, claim):
        """The gap of a plain claim."""
        total = _ORIGIN
        for weight, point in gap_parts(claim):
            total = vector_plus(total, vector_times(self.place(point), weight))
        return total

    def _pair(self, word, name):
        """The values of the two unknowns of a move or of a place."""
        return (self._values[(word, name, 0)], self._values[(word, name, 1)])

    def __add__(self, other):
        self._check_room(other)
        return Land(self.room, {unknown: plus(self._values[unknown], other._values[unknown])
                                for unknown in self._values})

    def __sub__(self, other):
        self._check_room(other)
        return Land(self.room, {unknown: minus(self._values[unknown], other._values[unknown])
                                for unknown in self._values})

    def _check_room(self, other):
        if self.room != other.room:
            raise OtherRoom()

    def __neg__(self):
        return self.scaled((-1, 1))

    def scaled(self, weight):
        """The multiple by a fraction."""
        return Land(self.room, {unknown: times(self._values[unknown], weight)
                                for unknown in self._values})

    def moved(self, motion):
        """The land behind a motion."""
        motions = {name: motion * self.motion(name) for name in self.room.names()}
        for sheet in self.room:
            if own_numbers(sheet.kind, motions[sheet.name].table) is None:
                raise NotOfKind(sheet.name)
        places = {mark: moved_spot(motion, self._pair("place", mark))
                  for mark in self.room.marks()}
        return _land_with(self.room, motions, places)

    def framed(self, name):
        """The land as the sheet shows it."""
        motion = self.motion(name)
        if motion.table.det == ZERO:
            raise Crushed(name)
        return self.moved(motion.inverse())

    def __eq__(self, other):
        return (isinstance(other, Land) and self.room == other.room
                and self._values == other._values)

    def __repr__(self):
        return f"Land({len(self.room)} sheets, {len(self.room.marks())} marks)"


def zero_land(room):
    """The land in which everything is 0."""
    return Land(room, {unknown: ZERO for unknown in unknowns(room)})


def land_of(room, *, tables, moves, places):
    """The land with these tables and moves of the sheets and places of the marks."""
    for name in room.names():
        if name not in tables or name not in moves:
            raise UnknownSheet(name)
    for mark in room.marks():
        if mark not in places:
            raise UnknownMark(mark)
    _check_tables(room, tables)
    motions = {name: Motion(tables[name], moves[name]) for name in room.names()}
    for name, mark in room.readings():
        if moved_spot(motions[name], room.sheet(name).spot(mark)) != places[mark]:
            raise Disagrees(name, mark)
    return _land_with(room, motions, places)


def _check_tables(room, tables):
    """Raises for the first sheet whose table is none that it may have."""
    scale = None
    for sheet in room:
        numbers = own_numbers(sheet.kind, tables[sheet.name])
        if numbers is None:
            raise NotOfKind(sheet.name)
        if sheet.kind == "even":
            if scale is not None and numbers != scale:
                raise NotOfKind(sheet.name)
            scale = numbers


def _land_with(room, motions, places):
    """The land with motions of the sheets and places of the marks that surely fit."""
    values = {}
    for sheet in room:
        motion = motions[sheet.name]
        for axis in AXES:
            values[("move", sheet.name, axis)] = motion.move[axis]
        numbers = own_numbers(sheet.kind, motion.table)
        for unknown, number in zip(own_unknowns(sheet), numbers):
            values[unknown] = number
    for mark in room.marks():
        for axis in AXES:
            values[("place", mark, axis)] = places[mark][axis]
    return Land(room, values)
