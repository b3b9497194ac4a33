"""Presses, whole lands, and mixes of two lands."""

from fractions import Fraction
from math import gcd
import unittest

from lostland.errors import NoLand, OtherRoom, UnknownSheet
from lostland.lands import Land, land_of
from lostland.rooms import Room
from lostland.sheets import Sheet
from lostland.spaces import Space
from lostland.texts import read_room
from lostland.whole import mixed, press, pressed, stands, whole_land
from tests import oracle
from tests.support import ANY_VALUES, NOT_NAMES, ORIGIN, ZERO, Case, some_spot, spot, table

SLANTED_TWO = read_room(
    "sheet s slanted\na 0 0\nb 1 0\nc 0 1\nd 1 1\nend\n"
    "sheet t slanted\na 0 0\nb 1 0\nc 0 1\nd 1 2\nend\n")
LANDWARD = read_room(
    "sheet p stretched\na 0 0\nb 1 0\nend\nsheet q stretched\na 0 0\nc 1 0\nend\n"
    "sheet r slanted\na 0 0\nb 1 0\nc 0 1\nend\n")
ZEROED = read_room("sheet s turned\na 0 0\nb 0 0\nend\nsheet t turned\na 0 0\nb 3 4\nend\n")
# Readings that leave no whole land: one mark at two spots of two equal pairs.
APART = read_room("sheet s even\na 0 0\nb 1 0\nend\nsheet t even\na 0 0\nb 2 0\nend\n")


def press_of(quads):
    """The press by [17], worked out from tables as lists of rows; None if some mix is regular."""
    if not oracle.is_always_flat(quads):
        return None
    def across(vectors):
        vectors = [(x, y) for x, y in vectors if (x, y) != (0, 0)]
        if not vectors:
            return (1, 0)
        x, y = vectors[0]
        if any(x * b != y * a for a, b in vectors):
            return None
        one, other = y, -x
        scale = Fraction(one).denominator * Fraction(other).denominator
        one, other = int(one * scale), int(other * scale)
        most = gcd(one, other)
        one, other = one // most, other // most
        return (one, other) if (one, other) > (0, 0) else (-one, -other)
    rows = across([row for quad in quads for row in quad])
    if rows is not None:
        return ("spot", rows)
    return ("land", across([(quad[0][k], quad[1][k]) for quad in quads for k in (0, 1)]))


class WholeCase(Case):
    def drawn(self, kinds=tuple(oracle.ALL_KINDS)):
        """A drawn space; some stand, some do not."""
        many = self.rng.randint(1, 4)
        room, land = oracle.drawn(self.rng, oracle.some_kinds(self.rng, many, kinds),
                                  self.rng.randint(2, 5), loose=1, often=0.7)
        told = [oracle.true_plain(self.rng, room, land) for _ in range(self.rng.randint(0, 2))]
        way = self.rng.random()
        if way < 0.5 and room.readings():
            name, mark = self.rng.choice(room.readings())
            room = room.with_reading(name, mark, some_spot(self.rng, 2))
        elif way < 0.6:
            told.append(oracle.some_plain(self.rng, room))
        return room, told


class TestPress(WholeCase):
    def test_the_examples(self):
        space = Space(SLANTED_TWO)
        for name in "st":
            self.same(press(space, name), ("spot", (0, 1)))
        self.same(pressed(space), ["s", "t"])
        self.assertIs(stands(space), False)
        space = Space(LANDWARD)
        self.same(press(space, "r"), ("land", (0, 1)))
        self.same(press(name="p", space=space), None)
        self.same(pressed(space), ["r"])

    def test_wholly_crushed_sheets(self):
        space = Space(ZEROED)
        self.same(press(space, "s"), None)
        self.same(press(space, "t"), ("spot", (1, 0)))
        self.same(pressed(space), ["t"])
        self.same(pressed(Space(APART)), ["s", "t"])
        self.same(press(Space(APART), "s"), ("spot", (1, 0)))

    def test_directions(self):
        a, b = ("spot", "s", ORIGIN), ("spot", "s", spot("2/3", -1))
        space = Space(Room(Sheet("s", "slanted"), Sheet("t", "even")), told=[("same", a, b)])
        self.same(press(space, "s"), ("spot", (2, -3)))
        self.same(press(space, "t"), None)
        # Steps along (1, 0) and (0, 1) of a slanted sheet that lead along the second axis.
        steps = [((1, 0), (0, 2)), ((0, 1), (0, -3))]
        room = Room(Sheet("p", "sized"), Sheet("q", "sized"), Sheet("s", "slanted"))
        told = [("same", ("spot", "s", ORIGIN), ("spot", name, ORIGIN)) for name in "pq"]
        told += [("same", ("spot", "s", spot(*step)), ("spot", name, spot(*image)))
                 for name, (step, image) in zip("pq", steps)]
        space = Space(room, told=told)
        self.same([press(space, name) for name in "pqs"], [None, None, ("land", (1, 0))])

    def test_against_an_elimination(self):
        found = {}
        for _ in range(120):
            room, told = self.drawn()
            space = Space(room, told=told)
            base = oracle.null_base(room, told)
            names = []
            for name in room.names():
                expected = press_of([oracle.table_at(room, name, values) for values in base])
                self.same(press(space, name), expected)
                if expected is not None:
                    names.append(name)
                    found[expected[0]] = found.get(expected[0], 0) + 1
            self.same(pressed(space), names)
            self.same(pressed(space=space), names)
            self.assertIs(stands(space=space), names == [])
            self.check_whole(space, names)
        self.assertGreater(found["spot"], 20)

    def test_free_rooms_have_a_spot_direction(self):
        for _ in range(60):
            room, told = self.drawn(tuple(oracle.FREE))
            space = Space(room, told=told)
            for name in pressed(space):
                side, (x, y) = press(space, name)
                self.assertEqual(side, "spot")
                for land in space.base():
                    self.same(land.motion(name).table(((x, 1), (y, 1))), ORIGIN)
            self.check_whole(space, pressed(space))

    def test_told_claims_that_crush(self):
        a, b = ("mark", "a"), ("mark", "b")
        room = SLANTED_TWO.without("t", "d")
        space = Space(room)
        self.assertIs(stands(space), True)
        told = space.with_told(("same", a, b))
        self.assertIs(stands(told), False)
        self.same(pressed(told), ["s", "t"])
        self.same(press(told, "s"), ("spot", (1, 0)))
        self.assertIs(stands(space.with_told(("same", a, a))), True)

    def test_unknown_sheets(self):
        for space in (Space(SLANTED_TWO), Space(Room(Sheet("a", "turned"), marks=["s"])),
                      Space(Room()), Space(Room(marks=["s"]))):
            for value in ANY_VALUES + NOT_NAMES + ["u", "b", "st", ["s"], ("s",)]:
                if value not in ["a"] + space.room.names():
                    self.fails(UnknownSheet, {"name": value}, press, space, value)

    def test_rooms_without_sheets(self):
        for room in (Room(), Room(marks=["a", "b"])):
            self.same(pressed(Space(room)), [])
            self.assertIs(stands(Space(room)), True)
            self.check_whole(Space(room), [])

    def check_whole(self, space, names):
        if names:
            self.fails(NoLand, {"name": names[0]}, whole_land, space)
            return
        land = whole_land(space)
        self.assertIs(type(land), Land)
        self.assertIs(land.is_whole, True)
        self.assertIs(space.has(land), True)
        self.assertEqual(land.room, space.room)
        for name, mark in space.room.readings():
            place = land.motion(name)(space.room.sheet(name).spot(mark))
            self.same(land.place(("mark", mark)), place)
        self.assertTrue(all(land.holds(claim) for claim in space.told()))
        self.assertEqual(whole_land(space=space), land)

    def test_many_sheets(self):
        for kind in oracle.ALL_KINDS:
            space = Space(Room(*[Sheet(name, kind) for name in "stuvwxyz"], marks=list("abcd")))
            self.check_whole(space, [])
        for _ in range(6):
            room, _ = oracle.drawn(self.rng, oracle.some_kinds(self.rng, 8), 9)
            self.check_whole(Space(room), [])

    def test_sheets_that_each_land_of_the_base_may_crush(self):
        # Each of the two numbers of the stretched sheets alone crushes all of them.
        room = Room(Sheet("s", "stretched"), Sheet("t", "stretched"), Sheet("u", "mirrored"))
        told = [("same", ("spot", "s", spot(1, 0)), ("spot", "t", spot(2, 0))),
                ("same", ("spot", "s", spot(0, 1)), ("spot", "t", spot(0, -3))),
                ("same", ("spot", "s", ORIGIN), ("spot", "t", ORIGIN))]
        self.check_whole(Space(room, told=told), [])


class TestMixed(WholeCase):
    ROOM = Room(Sheet("s", "stretched"), Sheet("t", "sized"), Sheet("u", "stretched"))

    def land(self, s, t, u):
        tables = {"s": table(s[0], 0, 0, s[1]), "t": table(t, 0, 0, t), "u": table(u[0], 0, 0, u[1])}
        return land_of(self.ROOM, tables=tables, moves={name: ORIGIN for name in "stu"}, places={})

    def test_the_least_number(self):
        for one, other, expected in [
                (((1, 1), 1, (1, 1)), ((1, 1), 1, (1, 1)), 1),
                (((1, 1), 1, (1, 1)), ((-1, 1), 1, (1, 1)), 2),
                (((1, 1), 1, (1, 1)), ((-1, -1), 1, (1, 1)), 2),
                (((2, 1), 1, (1, 1)), ((-1, -1), 1, (1, 1)), 3),
                (((2, 1), 3, (1, 1)), ((-1, -1), -1, (1, 1)), 4),
                (((2, 1), 3, (4, 5)), ((-1, -1), -1, (-1, -1)), 6),
                (((1, 0), 0, (0, 0)), ((0, 1), 0, (0, 0)), 1),
                (((0, 0), 0, (0, 0)), ((-1, -1), 0, (0, 1)), 1),
                (((1, 1), 0, (1, 0)), ((-1, 0), 0, (-1, 0)), 2),
                (((1, 0), 0, (1, 0)), ((-1, 0), 0, (-1, 0)), 1),
                (((1, 0), 1, (1, 0)), ((0, 1), 0, (-1, 1)), 2),
                (((0, 0), 0, (0, 0)), ((0, 0), 0, (0, 0)), 1)]:
            one, other = self.land(*one), self.land(*other)
            found = mixed(one, other)
            self.assertIs(type(found), tuple)
            self.same(found[0], expected)
            self.assertEqual(found[1], one + other.scaled((expected, 1)))
            self.assertEqual(mixed(other=other, one=one)[1], found[1])

    def test_drawn_lands(self):
        numbers = []
        for _ in range(150):
            room, told = self.drawn()
            base = oracle.null_base(room, told)
            one, other = [oracle.land_from(room, self.small(base, room)) for _ in range(2)]
            number, land = mixed(one, other)
            self.assertEqual(land, one + other.scaled((number, 1)))
            both = set(one.crushed()) & set(other.crushed())
            self.assertLessEqual(set(land.crushed()), both)
            for less in range(1, number):
                self.assertFalse(set((one + other.scaled((less, 1))).crushed()) <= both)
            numbers.append(number)
        self.assertGreater(max(numbers), 1)

    def small(self, base, room):
        total = {key: Fraction(0) for key in oracle.expected_unknowns(room)}
        for values in base:
            weight = self.rng.randint(-1, 1)
            for key in total:
                total[key] += weight * values[key]
        return total

    def test_other_rooms(self):
        one = self.land((1, 1), 1, (1, 1))
        for room in (Room(*reversed(self.ROOM.sheets())), self.ROOM.with_mark("a"), Room()):
            names = room.names()
            other = land_of(room, tables={name: table(1, 0, 0, 1) for name in names},
                            moves={name: ORIGIN for name in names},
                            places={mark: ORIGIN for mark in room.marks()})
            self.fails(OtherRoom, {}, mixed, one, other)
            self.fails(OtherRoom, {}, mixed, other, one)

    def test_sums_and_multiples_are_lands_of_the_space(self):
        for _ in range(30):
            room, told = self.drawn()
            space = Space(room, told=told)
            base = space.base()
            for one in base:
                for other in base:
                    for land in (one + other, one - other, -one, one.scaled((2, 3)), one.scaled(ZERO)):
                        self.assertIs(space.has(land), True)


if __name__ == "__main__":
    unittest.main()
