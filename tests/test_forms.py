"""The unknowns of rooms, and forms over them."""

from itertools import product
import unittest

from lostland.forms import (
    bond_form, entry_form, form_plus, form_times, gap_form, place_form, press_form, unknowns)
from lostland.rooms import Room
from lostland.sheets import Sheet
from lostland.tables import Table
from tests import oracle
from tests.support import BIG, ONE, ORIGIN, ZERO, Case, frac, num, some_fraction, some_spot, spot

DIRECTIONS = [(0, 1), (1, 0), (1, 1), (1, -1), (2, -3), (5, 1), (3, 7), (BIG, -2)]
LESS = (-1, 1)


def room_of(*kinds, marks=()):
    names = "uvstwxyz"
    return Room(*[Sheet(names[at], kind) for at, kind in enumerate(kinds)], marks=list(marks))


def table_entry(table, row, column):
    return table.entries()[2 * row + column]


class TestUnknowns(Case):
    def test_of_each_kind(self):
        moves = [("move", "u", 0), ("move", "u", 1)]
        own = [("table", "u", k) for k in range(4)]
        for kind, many in (("slanted", 4), ("turned", 2), ("mirrored", 2), ("stretched", 2),
                           ("sized", 1)):
            self.same(unknowns(room_of(kind)), moves + own[:many])
        self.same(unknowns(room_of("even")), moves + [("scale",)])
        self.same(unknowns(room=room_of("even", "even", "even")), sorted(
            [("move", name, k) for name in "suv" for k in (0, 1)]) + [("scale",)])

    def test_of_the_empty_room_and_of_marks(self):
        self.same(unknowns(Room()), [])
        self.same(unknowns(Room(marks=["b", "a"])),
                  [("place", "a", 0), ("place", "a", 1), ("place", "b", 0), ("place", "b", 1)])

    def test_of_a_room_with_all(self):
        room = Room(Sheet("t", "sized", [("b", ORIGIN)]), Sheet("e", "even"),
                    Sheet("s", "turned", [("b", ORIGIN)]), Sheet("d", "even"), marks=["a"])
        self.same(unknowns(room), [
            ("move", "d", 0), ("move", "d", 1), ("move", "e", 0), ("move", "e", 1),
            ("move", "s", 0), ("move", "s", 1), ("move", "t", 0), ("move", "t", 1),
            ("place", "a", 0), ("place", "a", 1), ("place", "b", 0), ("place", "b", 1),
            ("scale",), ("table", "s", 0), ("table", "s", 1), ("table", "t", 0)])

    def test_of_drawn_rooms(self):
        for many in range(9):
            for _ in range(10):
                kinds = oracle.some_kinds(self.rng, many)
                room, _ = oracle.drawn(self.rng, kinds, self.rng.randint(0, 9), loose=2)
                found = unknowns(room)
                self.same(found, oracle.expected_unknowns(room))
                found.append("more")
                self.same(unknowns(room), oracle.expected_unknowns(room))


class TestEntries(Case):
    def test_each_entry_of_each_kind(self):
        own = [(("table", "u", k), ONE) for k in range(4)]
        less = [(("table", "u", k), LESS) for k in range(4)]
        scale = ((("scale",), ONE),)
        expected = {
            "slanted": [(own[0],), (own[1],), (own[2],), (own[3],)],
            "turned": [(own[0],), (less[1],), (own[1],), (own[0],)],
            "mirrored": [(own[0],), (own[1],), (own[1],), (less[0],)],
            "stretched": [(own[0],), (), (), (own[1],)],
            "sized": [(own[0],), (), (), (own[0],)],
            "even": [scale, (), (), scale],
        }
        for kind, forms in expected.items():
            room = room_of(kind, "even", "slanted")
            for at, form in enumerate(forms):
                self.same(entry_form(room, "u", at // 2, at % 2), form)
                self.same(entry_form(column=at % 2, row=at // 2, name="u", room=room), form)

    def test_the_example(self):
        room = Room(Sheet("s", "turned", [("m", ORIGIN)]))
        self.same(entry_form(room, "s", 0, 1), ((("table", "s", 1), (-1, 1)),))
        self.same(place_form(room, ("mark", "m"), 0), ((("place", "m", 0), (1, 1)),))
        self.same(entry_form(room_of("sized"), "u", 0, 1), ())


class TestPlaces(Case):
    def test_marks_and_spots(self):
        room = Room(Sheet("s", "turned", [("a", ORIGIN)]), Sheet("e", "even"), marks=["x"])
        for axis in (0, 1):
            for mark in "ax":
                self.same(place_form(room, ("mark", mark), axis), ((("place", mark, axis), ONE),))
            self.same(place_form(axis=axis, point=("spot", "s", ORIGIN), room=room),
                      ((("move", "s", axis), ONE),))
        point = ("spot", "s", spot("1/2", -3))
        self.same(place_form(room, point, 0), (
            (("move", "s", 0), ONE), (("table", "s", 0), (1, 2)), (("table", "s", 1), (3, 1))))
        self.same(place_form(room, point, 1), (
            (("move", "s", 1), ONE), (("table", "s", 0), (-3, 1)), (("table", "s", 1), (1, 2))))
        point = ("spot", "e", spot("2/3", 0))
        self.same(place_form(room, point, 0), ((("move", "e", 0), ONE), (("scale",), (2, 3))))
        self.same(place_form(room, point, 1), ((("move", "e", 1), ONE),))

    def test_against_drawn_lands(self):
        for _ in range(60):
            room, land = oracle.drawn(self.rng, oracle.some_kinds(self.rng, 4), 3, loose=1)
            for _ in range(8):
                point = oracle.some_point(self.rng, room)
                for axis in (0, 1):
                    form = place_form(room, point, axis)
                    self.same(form, oracle.as_form(oracle.place(room, point, axis)))
                    self.same(land.at_form(form), land.place(point)[axis])


class TestPutTogether(Case):
    KEYS = [("move", "s", 0), ("place", "a", 1), ("scale",), ("table", "s", 0), ("table", "s", 1)]

    def some_form(self):
        keys = [key for key in self.KEYS if self.rng.random() < 0.6]
        return tuple((key, num(self.rng.choice([-2, -1, 1, 2]), self.rng.randint(1, 2)))
                     for key in keys)

    def test_weights_that_cancel(self):
        one = ((("move", "s", 0), ONE), (("scale",), (1, 2)))
        other = ((("move", "s", 0), LESS), (("place", "a", 0), (3, 1)), (("scale",), (1, 2)))
        self.same(form_plus(one, other), ((("place", "a", 0), (3, 1)), (("scale",), ONE)))
        self.same(form_plus(other=form_times(one, LESS), one=one), ())
        self.same(form_plus((), one), one)
        self.same(form_plus((), ()), ())
        self.same(form_times(one, ZERO), ())
        self.same(form_times((), (5, 3)), ())
        self.same(form_times(weight=(-2, 3), form=one),
                  ((("move", "s", 0), (-2, 3)), (("scale",), (-1, 3))))

    def test_drawn_forms(self):
        for _ in range(300):
            one, other, weight = self.some_form(), self.some_form(), some_fraction(self.rng, 3)
            expected = oracle.added((1, oracle.as_dict(one)), (1, oracle.as_dict(other)))
            self.same(form_plus(one, other), oracle.as_form(expected))
            expected = oracle.added((frac(weight), oracle.as_dict(one)))
            self.same(form_times(one, weight), oracle.as_form(expected))


class TestGapsPressesAndBonds(Case):
    def drawn(self):
        kinds = oracle.some_kinds(self.rng, self.rng.randint(1, 4))
        return oracle.drawn(self.rng, kinds, self.rng.randint(1, 4), loose=1)

    def test_gaps(self):
        room = Room(Sheet("s", "sized"), marks=["a", "b", "c"])
        a, b, c = [("mark", mark) for mark in "abc"]
        for axis in (0, 1):
            of = {mark: ("place", mark, axis) for mark in "abc"}
            self.same(gap_form(room, ("same", a, b), axis), ((of["a"], ONE), (of["b"], LESS)))
            self.same(gap_form(room, ("same", a, a), axis), ())
            self.same(gap_form(axis=axis, claim=("middle", a, b, c), room=room),
                      ((of["a"], ONE), (of["b"], (-1, 2)), (of["c"], (-1, 2))))
            self.same(gap_form(room, ("middle", a, b, b), axis), ((of["a"], ONE), (of["b"], LESS)))
            self.same(gap_form(room, ("mix", a, (((1, 3), b), ((2, 3), a))), axis),
                      ((of["a"], (1, 3)), (of["b"], (-1, 3))))
            self.same(gap_form(room, ("mix", a, ((ZERO, b), (ONE, c))), axis),
                      ((of["a"], ONE), (of["c"], LESS)))

    def test_gaps_in_drawn_lands(self):
        for _ in range(150):
            room, land = self.drawn()
            claim = oracle.some_plain(self.rng, room)
            for axis in (0, 1):
                form = gap_form(room, claim, axis)
                self.same(form, oracle.as_form(oracle.gap(room, claim, axis)))
                if claim[0] == "mix":
                    parts = claim[2]
                elif claim[0] == "middle":
                    parts = (((1, 2), claim[2]), ((1, 2), claim[3]))
                else:
                    parts = ((ONE, claim[2]),)
                value = frac(land.place(claim[1])[axis])
                for weight, point in parts:
                    value -= frac(weight) * frac(land.place(point)[axis])
                self.assertEqual(frac(land.at_form(form)), value)

    def test_presses(self):
        room = room_of("turned", "even")
        at = (("table", "u", 0), ("table", "u", 1))
        self.same(press_form(room, "u", "spot", (2, -3), 0), ((at[0], (2, 1)), (at[1], (3, 1))))
        self.same(press_form(room, "u", "spot", (2, -3), 1), ((at[0], (-3, 1)), (at[1], (2, 1))))
        self.same(press_form(room, "u", "land", (2, -3), 0), ((at[0], (2, 1)), (at[1], (-3, 1))))
        self.same(press_form(axis=1, direction=(2, -3), side="land", name="u", room=room),
                  ((at[0], (-3, 1)), (at[1], (-2, 1))))
        self.same(press_form(room, "v", "spot", (0, 1), 0), ())
        self.same(press_form(room, "v", "land", (0, 1), 1), ((("scale",), ONE),))

    def test_presses_in_drawn_lands(self):
        for _ in range(60):
            room, land = self.drawn()
            for name, (x, y) in product(room.names(), DIRECTIONS):
                table = land.motion(name).table
                a, b, c, d = map(frac, table.entries())
                for side, values in (("spot", (a * x + b * y, c * x + d * y)),
                                     ("land", (x * a + y * c, x * b + y * d))):
                    for axis in (0, 1):
                        form = press_form(room, name, side, (x, y), axis)
                        self.assertEqual(frac(land.at_form(form)), values[axis])
                        self.same(form, tuple(sorted(form)))

    def test_bonds(self):
        room = Room(marks=["a", "b", "c", "d"])
        a, b, c, d = [("mark", mark) for mark in "abcd"]
        of = {(mark, axis): ("place", mark, axis) for mark in "abcd" for axis in (0, 1)}
        line, side = ("line", a, b, c), ("side", a, b, c, d)
        self.same(bond_form(room, line, "ratio", (1, 2), 1), (
            (of["a", 1], (-3, 1)), (of["b", 1], ONE), (of["c", 1], (2, 1))))
        self.same(bond_form(room, side, "ratio", (1, -2), 0), (
            (of["a", 0], LESS), (of["b", 0], ONE), (of["c", 0], (2, 1)), (of["d", 0], (-2, 1))))
        self.same(bond_form(room, line, "direction", (1, 2), 0), (
            (of["a", 0], LESS), (of["a", 1], (-2, 1)), (of["b", 0], ONE), (of["b", 1], (2, 1))))
        self.same(bond_form(axis=1, direction=(0, 1), word="direction", claim=side, room=room), (
            (of["c", 1], LESS), (of["d", 1], ONE)))
        self.same(bond_form(room, ("line", a, a, a), "ratio", (1, 0), 0), ())

    def test_bonds_in_drawn_lands(self):
        for _ in range(60):
            room, land = self.drawn()
            for word, many in (("line", 3), ("side", 4)):
                claim = (word, *[oracle.some_point(self.rng, room) for _ in range(many)])
                places = [list(map(frac, land.place(point))) for point in claim[1:]]
                pairs = [places[:2], [places[0], places[2]] if word == "line" else places[2:]]
                steps = [[end[k] - start[k] for k in (0, 1)] for start, end in pairs]
                for s, t in DIRECTIONS:
                    for axis in (0, 1):
                        form = bond_form(room, claim, "ratio", (s, t), axis)
                        self.assertEqual(frac(land.at_form(form)),
                                         s * steps[0][axis] + t * steps[1][axis])
                        form = bond_form(room, claim, "direction", (s, t), axis)
                        self.assertEqual(frac(land.at_form(form)),
                                         s * steps[axis][0] + t * steps[axis][1])

    def test_entries_in_drawn_lands(self):
        for _ in range(30):
            room, land = self.drawn()
            for name in room.names():
                table = land.motion(name).table
                self.assertIs(type(table), Table)
                for row, column in product((0, 1), repeat=2):
                    form = entry_form(room, name, row, column)
                    self.same(form, oracle.as_form(oracle.entry(room, name, row, column)))
                    self.same(land.at_form(form), table_entry(table, row, column))

    def test_long_numbers(self):
        room = Room(Sheet("s", "turned"), marks=["a"])
        place = ((BIG, 1), (1, BIG))
        form = gap_form(room, ("same", ("mark", "a"), ("spot", "s", place)), 0)
        self.same(form, ((("move", "s", 0), LESS), (("place", "a", 0), ONE),
                         (("table", "s", 0), (-BIG, 1)), (("table", "s", 1), (1, BIG))))


if __name__ == "__main__":
    unittest.main()
