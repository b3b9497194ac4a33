"""Lands, with every method and operator, and how they are made."""

from fractions import Fraction
import unittest

from lostland.errors import (
    Crushed, Disagrees, InvalidClaim, InvalidPoint, NotOfKind, OtherRoom, UnknownKey, UnknownMark,
    UnknownSheet)
from lostland.lands import Land, land_of
from lostland.motions import Motion
from lostland.rooms import Room
from lostland.sheets import Sheet
from lostland.tables import Table
from tests import oracle
from tests.support import (
    ANY_VALUES, BIG, NOT_NAMES, NOT_SPOTS, ONE, ORIGIN, ZERO, Case, frac, motion, nested, num,
    some_fraction, some_motion, some_spot, spot, table)

ROOM = Room(Sheet("s", "turned", [("a", ORIGIN), ("b", spot(1, 0))]),
            Sheet("t", "slanted", [("b", spot(0, 2))]), marks=["x"])
TABLES = {"s": table(0, -2, 2, 0), "t": table(1, 1, 0, 0)}
MOVES = {"s": spot(5, 0), "t": spot(3, 2)}
PLACES = {"a": spot(5, 0), "b": spot(5, 2), "x": spot("1/2", "-1/3")}
LAND = land_of(ROOM, tables=TABLES, moves=MOVES, places=PLACES)
A, B, X = ("mark", "a"), ("mark", "b"), ("mark", "x")


def changed(given, **more):
    return {**given, **more}


def values_of(land):
    return {key: land.value_of(key) for key in oracle.expected_unknowns(land.room)}


class LandCase(Case):
    def drawn(self, many=None, kinds=tuple(oracle.ALL_KINDS)):
        """A drawn room and a drawn land of it, often a crushing one."""
        many = self.rng.randint(0, 4) if many is None else many
        chosen = oracle.some_kinds(self.rng, many, kinds)
        room, land = oracle.drawn(self.rng, chosen, self.rng.randint(0, 4), loose=1, often=0.3)
        if self.rng.random() < 0.5:
            values = oracle.mixed_values(self.rng, oracle.null_base(room), room)
            land = oracle.land_from(room, values)
        return room, land


class TestLandOf(LandCase):
    def test_its_parts(self):
        self.assertIs(type(LAND), Land)
        self.assertEqual(LAND.room, ROOM)
        for name in ("s", "t"):
            self.assertEqual(LAND.motion(name), Motion(TABLES[name], MOVES[name]))
        for mark, place in PLACES.items():
            self.same(LAND.place(("mark", mark)), place)
        self.same(LAND.crushed(), ["t"])
        self.assertIs(LAND.is_whole, False)

    def test_the_empty_room(self):
        land = land_of(Room(), tables={}, moves={}, places={})
        self.assertIs(land.is_whole, True)
        self.same(land.crushed(), [])
        self.assertEqual(land, land + land)
        self.same(repr(land), "Land(0 sheets, 0 marks)")
        self.assertIs(bool(land), True)

    def test_further_keys_are_ignored(self):
        more = land_of(ROOM, tables=changed(TABLES, u=None, a=table(0, 0, 0, 0)),
                       moves=changed(MOVES, u=ORIGIN), places=changed(PLACES, s=ORIGIN, c=None))
        self.assertEqual(more, LAND)

    def test_dicts_that_are_changed_behind_the_call(self):
        tables, moves, places = dict(TABLES), dict(MOVES), dict(PLACES)
        land = land_of(ROOM, places=places, moves=moves, tables=tables)
        self.assertEqual((tables, moves, places), (TABLES, MOVES, PLACES))
        tables["s"] = moves["t"] = places["x"] = None
        tables.pop("t")
        self.assertEqual(land, LAND)

    def test_missing_sheets(self):
        for tables, moves, name in [
                ({}, MOVES, "s"), (TABLES, {}, "s"), ({"s": TABLES["s"]}, {}, "s"),
                ({"s": TABLES["s"]}, MOVES, "t"), (TABLES, {"s": ORIGIN}, "t"),
                ({"t": TABLES["t"]}, {"s": ORIGIN}, "s"), ({"s": TABLES["t"]}, MOVES, "t")]:
            self.fails(UnknownSheet, {"name": name}, land_of, ROOM, tables=tables, moves=moves,
                       places={})

    def test_missing_marks(self):
        bad = changed(TABLES, s=table(1, 2, 3, 4))
        for places, mark in [({}, "a"), ({"a": ORIGIN}, "b"), ({"x": ORIGIN, "b": ORIGIN}, "a"),
                             ({"b": ORIGIN, "a": ORIGIN}, "x")]:
            self.fails(UnknownMark, {"name": mark}, land_of, ROOM, tables=bad, moves=MOVES,
                       places=places)

    def test_tables_of_other_kinds(self):
        for bad, name in [(changed(TABLES, s=table(0, 2, 2, 0)), "s"),
                          (changed(TABLES, s=table(1, 0, 0, -1)), "s")]:
            self.fails(NotOfKind, {"name": name}, land_of, ROOM, tables=bad, moves=MOVES,
                       places={mark: ORIGIN for mark in PLACES})
        wrong = {"turned": (1, 2, 2, -1), "mirrored": (1, -2, 2, 1), "stretched": (1, 1, 0, 1),
                 "sized": (1, 0, 0, 2), "even": (1, 0, 0, -1)}
        for kind, entries in wrong.items():
            room = Room(Sheet("a", "slanted"), Sheet("s", kind), Sheet("t", kind))
            tables = {"a": table(1, 2, 3, 4), "s": table(0, 0, 0, 0), "t": table(*entries)}
            moves = {name: ORIGIN for name in "ast"}
            self.fails(NotOfKind, {"name": "t"}, land_of, room, tables=tables, moves=moves, places={})
            tables["s"] = table(*entries)
            self.fails(NotOfKind, {"name": "s"}, land_of, room, tables=tables, moves=moves, places={})

    def test_even_sheets_have_one_table(self):
        room = Room(Sheet("d", "even"), Sheet("s", "sized"), Sheet("e", "even"), Sheet("f", "even"))
        moves = {name: ORIGIN for name in "dsef"}
        tables = {name: table(2, 0, 0, 2) for name in "dsef"}
        tables["s"] = table(3, 0, 0, 3)
        land = land_of(room, tables=tables, moves=moves, places={})
        self.same(land.value_of(("scale",)), (2, 1))
        self.same(land.value_of(("table", "s", 0)), (3, 1))
        for name in "ef":
            self.fails(NotOfKind, {"name": name}, land_of, room, moves=moves, places={},
                       tables=changed(tables, **{name: table(3, 0, 0, 3)}))
        self.fails(NotOfKind, {"name": "e"}, land_of, room, moves=moves, places={},
                   tables=changed(tables, d=table(5, 0, 0, 5)))
        self.fails(NotOfKind, {"name": "s"}, land_of, room, moves=moves, places={},
                   tables=changed(tables, e=table(3, 0, 0, 3), s=table(1, 2, 3, 4)))

    def test_readings_that_disagree(self):
        for places, name, mark in [
                (changed(PLACES, a=spot(5, 1)), "s", "a"), (changed(PLACES, b=spot(4, 2)), "s", "b"),
                (changed(PLACES, a=ORIGIN, b=ORIGIN), "s", "a")]:
            self.fails(Disagrees, {"name": name, "mark": mark}, land_of, ROOM, tables=TABLES,
                       moves=MOVES, places=places)
        self.fails(Disagrees, {"name": "t", "mark": "b"}, land_of, ROOM, tables=TABLES,
                   moves=changed(MOVES, t=spot(3, 1)), places=PLACES)
        self.fails(Disagrees, {"name": "s", "mark": "a"}, land_of, ROOM, tables=TABLES,
                   moves=changed(MOVES, t=ORIGIN, s=ORIGIN), places=PLACES)

    def test_the_first_of_several_wrong_things(self):
        bad = changed(TABLES, s=table(1, 2, 3, 4))
        short = {"s": bad["s"]}
        self.fails(UnknownSheet, {"name": "t"}, land_of, ROOM, tables=short, moves=MOVES, places={})
        self.fails(UnknownMark, {"name": "b"}, land_of, ROOM, tables=bad, moves=MOVES,
                   places={"a": spot(9, 9)})
        self.fails(NotOfKind, {"name": "s"}, land_of, ROOM, tables=bad, moves=MOVES,
                   places=changed(PLACES, a=spot(9, 9)))

    def test_crushing_lands(self):
        zero = {name: table(0, 0, 0, 0) for name in "st"}
        land = land_of(ROOM, tables=zero, moves={name: spot(1, 2) for name in "st"},
                       places={mark: spot(1, 2) for mark in "abx"})
        self.same(land.crushed(), ["s", "t"])
        self.assertIs(land.is_whole, False)


class TestAnswers(LandCase):
    def test_place_of_spots(self):
        self.same(LAND.place(("spot", "s", ORIGIN)), spot(5, 0))
        self.same(LAND.place(("spot", "s", spot("1/2", 3))), spot(-1, 1))
        self.same(LAND.place(point=("spot", "t", spot(7, "1/2"))), spot("21/2", 2))

    def test_place_and_motion_of_any_value(self):
        for value in ANY_VALUES + NOT_NAMES + ["s", "a", ["mark", "a"], ("mark", "c"),
                                               ("spot", "u", ORIGIN), nested(11, A)]:
            if value == A:
                continue
            self.fails(InvalidPoint, {"value": value}, LAND.place, value)
            self.fails(InvalidPoint, {"value": value}, LAND.spot, value, None)
        for value in NOT_SPOTS:
            self.fails(InvalidPoint, {}, LAND.place, ("spot", "s", value))
        for value in ANY_VALUES + NOT_NAMES + ["u", "x", "st"]:
            if value in ("s", "t"):
                continue
            self.fails(UnknownSheet, {"name": value}, LAND.motion, value)
            self.fails(UnknownSheet, {"name": value}, LAND.spot, A, value)
            self.fails(UnknownSheet, {"name": value}, LAND.framed, value)

    def test_values(self):
        expected = {("move", "s", 0): (5, 1), ("move", "s", 1): ZERO, ("move", "t", 0): (3, 1),
                    ("move", "t", 1): (2, 1), ("place", "a", 0): (5, 1), ("place", "a", 1): ZERO,
                    ("place", "b", 0): (5, 1), ("place", "b", 1): (2, 1), ("place", "x", 0): (1, 2),
                    ("place", "x", 1): (-1, 3), ("table", "s", 0): ZERO, ("table", "s", 1): (2, 1),
                    ("table", "t", 0): ONE, ("table", "t", 1): ONE, ("table", "t", 2): ZERO,
                    ("table", "t", 3): ZERO}
        self.assertEqual(list(expected), oracle.expected_unknowns(ROOM))
        for unknown, value in expected.items():
            self.same(LAND.value_of(unknown), value)
            self.same(LAND.value_of(unknown=unknown), value)
            self.same(LAND.at_form(((unknown, (3, 2)),)), num(Fraction(3, 2) * frac(value)))

    def test_values_that_are_no_unknowns(self):
        for value in ANY_VALUES + NOT_NAMES + [
                ("scale",), ("table", "s", 2), ("table", "s", True), ("table", "s", False),
                ("move", "s", True), ("move", "s", 2), ("move", "s", -1), ["move", "s", 0],
                ("move", "a", 0), ("place", "s", 0), ("place", "a"), ("place", "a", 0, 0),
                ("place", "a", False), ("move", "s", (0, 1)), ("table", "s", "0"), (("move", "s", 0),),
                ("move", ["s"], 0), ("move", "s", None), (table(1, 0, 0, 1), "s", 0)]:
            self.fails(UnknownKey, {"key": value}, LAND.value_of, value)
        self.fails(UnknownKey, {"key": ("scale",)}, LAND.value_of, ("scale",))
        even = land_of(Room(Sheet("s", "even")), tables={"s": table(2, 0, 0, 2)},
                       moves={"s": ORIGIN}, places={})
        self.same(even.value_of(("scale",)), (2, 1))
        self.fails(UnknownKey, {"key": ("table", "s", 0)}, even.value_of, ("table", "s", 0))

    def test_at_form(self):
        self.same(LAND.at_form(()), ZERO)
        form = ((("move", "t", 0), (2, 3)), (("place", "x", 0), (-2, 1)), (("table", "s", 1), (1, 4)))
        self.same(LAND.at_form(form), (3, 2))
        for _ in range(40):
            room, land = self.drawn()
            values = values_of(land)
            form = {key: Fraction(self.rng.randint(-3, 3), 2) for key in values}
            expected = sum((form[key] * frac(values[key]) for key in values), Fraction(0))
            self.same(land.at_form(form=oracle.as_form(form)), num(expected))

    def test_spots(self):
        self.same(LAND.spot(A, "s"), ORIGIN)
        self.same(LAND.spot(name="s", point=B), spot(1, 0))
        self.same(LAND.spot(("spot", "t", ORIGIN), "s"), spot(1, 1))
        self.same(LAND.spot(("spot", "s", spot(4, "2/3")), "s"), spot(4, "2/3"))
        self.fails(Crushed, {"name": "t"}, LAND.spot, B, "t")
        self.fails(Crushed, {"name": "t"}, LAND.spot, ("spot", "t", ORIGIN), "t")
        self.fails(InvalidPoint, {"value": None}, LAND.spot, None, "t")
        self.fails(UnknownSheet, {"name": "u"}, LAND.spot, A, "u")

    def test_drawn_spots_are_taken_to_the_place(self):
        for _ in range(60):
            room, land = self.drawn()
            for name in room.names():
                point = oracle.some_point(self.rng, room)
                if name in land.crushed():
                    self.fails(Crushed, {"name": name}, land.spot, point, name)
                else:
                    self.same(land.motion(name)(land.spot(point, name)), land.place(point))

    def test_crushed(self):
        for _ in range(60):
            room, land = self.drawn()
            expected = [name for name in room.names()
                        if oracle.det([[frac(land.motion(name).table.a), frac(land.motion(name).table.b)],
                                       [frac(land.motion(name).table.c), frac(land.motion(name).table.d)]]) == 0]
            self.same(land.crushed(), expected)
            self.assertIs(land.is_whole, expected == [])
            land.crushed().append("more")
            self.same(land.crushed(), expected)

    def test_repr_and_truth(self):
        self.same(repr(LAND), "Land(2 sheets, 3 marks)")
        one = Room(Sheet("s", "even"), marks=["a"])
        land = land_of(one, tables={"s": table(0, 0, 0, 0)}, moves={"s": ORIGIN}, places={"a": ORIGIN})
        self.same(repr(land), "Land(1 sheets, 1 marks)")
        self.assertIs(bool(land), True)


class TestHolds(LandCase):
    def test_each_word(self):
        c = ("spot", "s", spot(0, 1))  # at (3, 0)
        t = ("spot", "t", ORIGIN)  # at (3, 2)
        half = ("spot", "s", spot("1/2", 0))  # at (5, 1)
        for claim, expected in [
                (("same", A, B), False), (("same", B, B), True), (("same", B, ("spot", "s", spot(1, 0))), True),
                (("same", t, ("spot", "s", spot(1, 1))), True), (("same", A, X), False),
                (("middle", half, A, B), True), (("middle", A, half, B), False), (("middle", A, A, A), True),
                (("middle", B, A, A), False),
                (("mix", A, (((1, 1), A),)), True), (("mix", A, (((2, 1), half), ((-1, 1), B))), True),
                (("mix", t, (((-1, 1), A), ((1, 1), B), ((1, 1), c))), True),
                (("mix", t, (((1, 1), A), ((1, 1), B), ((-1, 1), c))), False),
                (("line", A, B, half), True), (("line", A, B, c), False), (("line", A, A, X), True),
                (("line", X, A, A), True), (("line", A, X, A), True), (("line", half, A, B), True),
                (("side", A, B, c, t), True), (("side", A, B, t, c), True), (("side", A, c, A, B), False),
                (("side", A, A, B, c), True), (("side", X, c, half, half), True)]:
            self.assertIs(LAND.holds(claim), expected, claim)
            self.assertIs(LAND.holds(claim=claim), expected)
            if claim[0] in ("same", "middle", "mix"):
                self.assertIs(LAND.holds(("not", claim)), not expected)

    def test_one_coordinate_is_not_enough(self):
        land = land_of(Room(marks=["a", "b", "c"]), tables={}, moves={},
                       places={"a": spot(1, 2), "b": spot(1, 3), "c": spot(0, 2)})
        a, b, c = [("mark", mark) for mark in "abc"]
        for claim in (("same", a, b), ("same", a, c), ("middle", a, b, a), ("mix", a, ((ONE, c),))):
            self.assertIs(land.holds(claim), False)
            self.assertIs(land.holds(("not", claim)), True)

    def test_in_drawn_lands(self):
        found = []
        for _ in range(300):
            room, land = self.drawn()
            if not room.marks():
                continue
            values = {key: frac(value) for key, value in values_of(land).items()}
            claim = oracle.some_claim(self.rng, room)
            if claim[0] in ("line", "side"):
                expected = oracle.det(oracle.step_table_at(room, claim, values)) == 0
            else:
                plain = claim[1] if claim[0] == "not" else claim
                gaps = [oracle.value(oracle.gap(room, plain, axis), values) for axis in (0, 1)]
                expected = (gaps == [0, 0]) is (claim[0] != "not")
            self.assertIs(land.holds(claim), expected)
            found.append((claim[0], land.is_whole, expected))
        self.assertIn(("line", False, False), found)
        self.assertIn(("not", False, True), found)

    def test_wholly_crushed(self):
        zero = LAND.scaled(ZERO)
        for claim in (("same", A, X), ("middle", A, B, X), ("mix", A, (((5, 1), X), ((-4, 1), B))),
                      ("line", A, B, X), ("side", A, B, X, ("spot", "s", spot(1, 1)))):
            self.assertIs(zero.holds(claim), True)
        self.assertIs(zero.holds(("not", ("same", A, X))), False)

    def test_other_values(self):
        for value in ANY_VALUES + [("same", A), ["same", A, B], "same a b", [("same", A, B)],
                                   ("not", ("line", A, B, X))]:
            self.fails(InvalidClaim, {"at": 0, "why": "form"}, LAND.holds, value)
        self.fails(InvalidClaim, {"at": 0, "why": "point"}, LAND.holds, ("same", A, ("mark", "c")))
        self.fails(InvalidClaim, {"at": 0, "why": "point"}, LAND.holds,
                   ("not", ("mix", A, ((ZERO, ("spot", "u", ORIGIN)),))))
        self.fails(InvalidClaim, {"at": 0, "why": "weights"}, LAND.holds, ("mix", A, ((ZERO, B),)))


class TestSums(LandCase):
    def two(self):
        room, one = self.drawn()
        values = oracle.mixed_values(self.rng, oracle.null_base(room), room)
        return room, one, oracle.land_from(room, values)

    def test_value_by_value(self):
        for _ in range(60):
            room, one, other = self.two()
            weight = some_fraction(self.rng)
            firsts, seconds = values_of(one), values_of(other)
            for land, act in [(one + other, lambda x, y: x + y), (one - other, lambda x, y: x - y),
                              (-one, lambda x, y: -x), (one.scaled(weight), lambda x, y: frac(weight) * x),
                              (one.scaled(weight=ZERO), lambda x, y: 0)]:
                self.assertIs(type(land), Land)
                self.assertEqual(land.room, room)
                expected = {key: frac(firsts[key]) for key in firsts}
                expected = {key: Fraction(act(value, frac(seconds[key])))
                            for key, value in expected.items()}
                self.same(values_of(land), {key: num(value) for key, value in expected.items()})
                self.assertEqual(land, oracle.land_from(room, expected))
            self.same(values_of(one), firsts)
            self.same(values_of(other), seconds)

    def test_other_rooms(self):
        def zero(room):
            return land_of(room, tables={name: table(0, 0, 0, 0) for name in room.names()},
                           moves={name: ORIGIN for name in room.names()},
                           places={mark: ORIGIN for mark in room.marks()})
        s, t = Sheet("s", "turned", [("a", ORIGIN)]), Sheet("t", "even")
        lands = [zero(room) for room in (
            Room(s, t), Room(t, s), Room(s, t, marks=["b"]), Room(s.of_kind("mirrored"), t),
            Room(s.of_kind("stretched"), t), Room(Sheet("s", "turned"), t, marks=["a"]), Room(s),
            Room(s.with_reading("a", spot(1, 0)), t))]
        self.assertEqual(len(oracle.expected_unknowns(lands[0].room)),
                         len(oracle.expected_unknowns(lands[5].room)))
        for one in lands:
            for other in lands:
                if one is other:
                    self.assertEqual(one + other, one)
                    self.assertEqual(one, other)
                else:
                    self.fails(OtherRoom, {}, lambda: one + other)
                    self.fails(OtherRoom, {}, lambda: one - other)
                    self.assertIs(one == other, False)

    def test_equality(self):
        same = land_of(Room(*ROOM.sheets(), marks=["x"]), tables=TABLES, moves=MOVES, places=PLACES)
        self.assertTrue(LAND == same)
        self.assertFalse(LAND != same)
        for places in (changed(PLACES, x=spot("1/2", 0)), changed(PLACES, x=spot(0, "-1/3"))):
            self.assertFalse(LAND == land_of(ROOM, tables=TABLES, moves=MOVES, places=places))
        other = land_of(ROOM, tables=changed(TABLES, t=table(9, 1, 0, 0)), moves=MOVES, places=PLACES)
        self.assertTrue(LAND != other)
        for value in ANY_VALUES + [ROOM, [LAND], (LAND,)]:
            self.assertIs(LAND == value, False)
            self.assertIs(value == LAND, False)

    def test_long_numbers(self):
        land = land_of(ROOM, tables=TABLES, moves=MOVES, places=changed(PLACES, x=((BIG, 1), (1, BIG))))
        for _ in range(4):
            land = land + land.scaled((BIG, BIG + 1))
        self.same(land.place(X), tuple(num(frac(one) * (1 + Fraction(BIG, BIG + 1)) ** 4)
                                       for one in ((BIG, 1), (1, BIG))))


class TestMoved(LandCase):
    def check(self, land, moved, by):
        for mark in land.room.marks():
            self.same(moved.place(("mark", mark)), by(land.place(("mark", mark))))
        for name in land.room.names():
            self.assertEqual(moved.motion(name), by * land.motion(name))
        self.assertEqual(moved.room, land.room)

    def test_free_rooms(self):
        for _ in range(40):
            room, land = self.drawn(kinds=("slanted",))
            by = some_motion(self.rng)
            self.check(land, land.moved(by), by)
            room, land = self.drawn(kinds=("slanted", "turned", "mirrored"))
            turn = some_fraction(self.rng), some_fraction(self.rng)
            by = Motion(Table(turn[0], num(-frac(turn[1])), turn[1], turn[0]), some_spot(self.rng))
            self.check(land, land.moved(motion=by), by)

    def test_each_kind_with_each_motion(self):
        grid = [motion(a, b, c, d, 1, -2) for a in (0, 1, -2) for b in (0, 1) for c in (0, -1)
                for d in (0, 1, -2)]
        for _ in range(12):
            room, land = self.drawn()
            for by in grid:
                wrong = [sheet.name for sheet in room.sheets()
                         if not self.fits(sheet.kind, by.table * land.motion(sheet.name).table)]
                if wrong:
                    self.fails(NotOfKind, {"name": wrong[0]}, land.moved, by)
                else:
                    self.check(land, land.moved(by), by)

    @staticmethod
    def fits(kind, given):
        entries = [[given.a, given.b], [given.c, given.d]]
        numbers = {}
        for row, column in ((0, 0), (0, 1), (1, 0), (1, 1)):
            part = oracle.ENTRIES[kind][row][column]
            value = frac(entries[row][column])
            if part is None:
                if value != 0:
                    return False
            elif numbers.setdefault(part[0], value * part[1]) != value * part[1]:
                return False
        return True

    def test_even_sheets_stay_of_one_scale(self):
        room = Room(Sheet("d", "even"), Sheet("e", "even"), marks=["a"])
        land = land_of(room, tables={name: table(2, 0, 0, 2) for name in "de"},
                       moves={"d": spot(1, 0), "e": ORIGIN}, places={"a": spot(1, 1)})
        by = motion(-3, 0, 0, -3, 0, 1)
        self.check(land, land.moved(by), by)
        self.same(land.moved(by).value_of(("scale",)), (-6, 1))
        self.fails(NotOfKind, {"name": "d"}, land.moved, motion(1, 0, 0, 2))
        self.fails(NotOfKind, {"name": "d"}, land.moved, motion(0, -1, 1, 0))
        # A crushed sheet stays crushed, and of its kind, by any motion.
        zero = land.scaled(ZERO)
        self.check(zero, zero.moved(motion(1, 2, 3, 4)), motion(1, 2, 3, 4))

    def test_framed(self):
        framed = LAND.framed("s")
        self.assertEqual(framed.motion("s"), Motion.identity())
        self.same(framed.place(A), ORIGIN)
        self.same(framed.place(B), spot(1, 0))
        self.check(LAND, framed, LAND.motion("s").inverse())
        self.fails(Crushed, {"name": "t"}, LAND.framed, "t")
        self.fails(Crushed, {"name": "t"}, LAND.framed, name="t")

    def test_framed_by_a_sheet_that_does_not_keep_the_kinds(self):
        room = Room(Sheet("t", "turned"), Sheet("m", "mirrored"), Sheet("n", "mirrored"),
                    Sheet("q", "stretched"))
        moves = {name: ORIGIN for name in "tmnq"}
        tables = {"t": table(1, 0, 0, 1), "m": table(1, 0, 0, -1), "n": table(0, 2, 2, 0),
                  "q": table(2, 0, 0, 3)}
        land = land_of(room, tables=tables, moves=moves, places={})
        self.fails(NotOfKind, {"name": "t"}, land.framed, "m")
        self.assertEqual(land.framed("t"), land)
        self.fails(NotOfKind, {"name": "t"}, land.framed, "q")
        only = Room(Sheet("m", "mirrored"))
        land = land_of(only, tables=tables, moves=moves, places={})
        self.fails(NotOfKind, {"name": "m"}, land.framed, "m")
        self.fails(Crushed, {"name": "m"}, land.scaled(ZERO).framed, "m")

    def test_framed_in_drawn_lands(self):
        found = []
        for _ in range(80):
            room, land = self.drawn()
            for name in room.names():
                if name in land.crushed():
                    self.fails(Crushed, {"name": name}, land.framed, name)
                    continue
                by = land.motion(name).inverse()
                try:
                    expected = land.moved(by)
                except NotOfKind as wrong:
                    self.fails(NotOfKind, {"name": wrong.name}, land.framed, name)
                    found.append("wrong")
                    continue
                self.assertEqual(land.framed(name), expected)
                self.assertEqual(land.framed(name).motion(name), Motion.identity())
                for mark, place in room.sheet(name).readings():
                    self.same(land.framed(name).place(("mark", mark)), place)
                found.append("right")
        self.assertEqual(set(found), {"right", "wrong"})


if __name__ == "__main__":
    unittest.main()
