"""Rows, their keys, and sums of them."""

from fractions import Fraction
import unittest

from lostland.errors import InvalidSum, UnknownRow
from lostland.rooms import Room
from lostland.sheets import Sheet
from lostland.sums import is_sum, row_form, row_keys, sum_form, sum_plus, sum_times
from tests import oracle
from tests.support import (
    ANY_VALUES, BIG, NOT_FRACTIONS, NOT_NAMES, ONE, ORIGIN, ZERO, Case, frac, nested, num,
    some_fraction, spot)

A, B, X = ("mark", "a"), ("mark", "b"), ("mark", "x")
ROOM = Room(Sheet("t", "turned", [("b", spot("1/2", 3)), ("a", ORIGIN)]), Sheet("e", "even"),
            Sheet("s", "even", [("a", spot(-1, 2))]), marks=["x"])
TOLD = [("same", A, X), ("middle", X, A, B), ("mix", X, (((1, 3), A), ((2, 3), B))),
        ("same", A, A)]
KEYS = [
    ("reading", "t", "b", 0), ("reading", "t", "b", 1), ("reading", "t", "a", 0),
    ("reading", "t", "a", 1), ("reading", "s", "a", 0), ("reading", "s", "a", 1),
    ("told", 0, 0), ("told", 0, 1), ("told", 1, 0), ("told", 1, 1), ("told", 2, 0), ("told", 2, 1),
    ("told", 3, 0), ("told", 3, 1)]
NO_KEYS = [
    ("reading", "t", "b", True), ("reading", "t", "b", False), ("reading", "t", "b", 2),
    ("reading", "t", "b", -1), ["reading", "t", "b", 0], ("reading", "t", "x", 0),
    ("reading", "s", "b", 0), ("reading", "e", "a", 0), ("reading", "u", "a", 0),
    ("reading", "a", "t", 0), ("reading", "t", "b"), ("reading", "t", "b", 0, 0), ("reading",),
    ("Reading", "t", "b", 0), ("reading", "t", ["b"], 0), ("reading", ("t",), "b", 0),
    ("reading", "t", "b", (0, 1)), ("reading", "t", "b", "0"), ("reading", "t", "b", None),
    ("told", 4, 0), ("told", -1, 0), ("told", 0, 2), ("told", 0, -1), ("told", True, 0),
    ("told", False, 1), ("told", 1, True), ("told", 0, False), ("told", 3, False),
    ("told", 3, True), ("told", 0), ("told", 0, 0, 0),
    ["told", 0, 0], ("told", "0", 0), ("told", (0,), 0), ("told", BIG, 0), ("told", None, 0),
    (("told", 0, 0),), (("told", 0, 0), ONE), nested(9, ("told", 0, 0)), "told 0 0",
]


def some_sum(rng, keys, often=0.5):
    found = []
    for key in sorted(keys):
        if rng.random() < often:
            found.append((key, num(rng.choice([-3, -2, -1, 1, 2]), rng.randint(1, 3))))
    return tuple(found)


class TestRows(Case):
    def test_keys(self):
        self.same(row_keys(ROOM, TOLD), KEYS)
        self.same(row_keys(told=tuple(TOLD), room=ROOM), KEYS)
        self.same(row_keys(ROOM), KEYS[:6])
        self.same(row_keys(ROOM, []), KEYS[:6])
        self.same(row_keys(Room()), [])
        self.same(row_keys(Room(marks=["a", "x"]), TOLD[:1]), [("told", 0, 0), ("told", 0, 1)])
        row_keys(ROOM, TOLD).clear()
        self.same(row_keys(ROOM, TOLD), KEYS)

    def test_forms_of_readings(self):
        less = (-1, 1)
        self.same(row_form(ROOM, ("reading", "t", "b", 0)), (
            (("move", "t", 0), ONE), (("place", "b", 0), less), (("table", "t", 0), (1, 2)),
            (("table", "t", 1), (-3, 1))))
        self.same(row_form(ROOM, ("reading", "t", "b", 1)), (
            (("move", "t", 1), ONE), (("place", "b", 1), less), (("table", "t", 0), (3, 1)),
            (("table", "t", 1), (1, 2))))
        self.same(row_form(ROOM, ("reading", "t", "a", 1), TOLD), (
            (("move", "t", 1), ONE), (("place", "a", 1), less)))
        self.same(row_form(ROOM, ("reading", "s", "a", 0)), (
            (("move", "s", 0), ONE), (("place", "a", 0), less), (("scale",), less)))
        self.same(row_form(told=TOLD, key=("reading", "s", "a", 1), room=ROOM), (
            (("move", "s", 1), ONE), (("place", "a", 1), less), (("scale",), (2, 1))))

    def test_forms_of_told_claims(self):
        for axis in (0, 1):
            a, b, x = [("place", mark, axis) for mark in "abx"]
            self.same(row_form(ROOM, ("told", 0, axis), TOLD), ((a, ONE), (x, (-1, 1))))
            self.same(row_form(ROOM, ("told", 1, axis), tuple(TOLD)),
                      ((a, (-1, 2)), (b, (-1, 2)), (x, ONE)))
            self.same(row_form(ROOM, ("told", 2, axis), TOLD),
                      ((a, (-1, 3)), (b, (-2, 3)), (x, ONE)))
            self.same(row_form(ROOM, ("told", 3, axis), TOLD), ())

    def test_forms_in_drawn_rooms(self):
        for _ in range(40):
            room, land = oracle.drawn(self.rng, oracle.some_kinds(self.rng, 4), 4, loose=1)
            told = [oracle.some_plain(self.rng, room) for _ in range(self.rng.randint(0, 4))]
            expected = oracle.rows(room, told)
            self.same(row_keys(room, told), [key for key, _ in expected])
            for key, terms in expected:
                form = row_form(room, key, told)
                self.same(form, oracle.as_form(terms))
                if key[0] == "reading":
                    self.same(land.at_form(form), ZERO)

    def test_values_that_are_no_keys(self):
        for value in NO_KEYS + ANY_VALUES + NOT_NAMES:
            self.fails(UnknownRow, {"key": value}, row_form, ROOM, value, TOLD)
            self.fails(UnknownRow, {"key": value}, row_form, key=value, room=ROOM)
        for key in KEYS:
            self.fails(UnknownRow, {"key": key}, row_form, Room(), key)
            if key[0] == "told":
                self.fails(UnknownRow, {"key": key}, row_form, ROOM, key)
        self.fails(UnknownRow, {"key": ("told", 1, 0)}, row_form, ROOM, ("told", 1, 0), TOLD[:1])


class TestSums(Case):
    def test_sums_are_let(self):
        self.assertIs(is_sum(ROOM, ()), True)
        self.assertIs(is_sum(ROOM, (), TOLD), True)
        for key in KEYS:
            for weight in (ONE, (-2, 3), (BIG, BIG + 1)):
                self.assertIs(is_sum(ROOM, ((key, weight),), TOLD), True)
        for _ in range(60):
            total = some_sum(self.rng, KEYS)
            self.assertIs(is_sum(told=TOLD, value=total, room=ROOM), True)
        self.assertIs(is_sum(ROOM, tuple((key, ONE) for key in sorted(KEYS)), tuple(TOLD)), True)

    def test_nothing_else_is_let(self):
        key, later = ("reading", "t", "a", 0), ("told", 0, 0)
        wrong = [
            [], [(key, ONE)], (key, ONE), ((key, ZERO),), ((key, 1),), ([key, ONE],),
            ((key,),), ((key, ONE, ONE),), ((key, ONE), (key, ONE)), ((later, ONE), (key, ONE)),
            ((key, ONE), (later, ZERO)), ((key, ONE), (later, (2, 2))), ((key, ONE), None),
            ((ONE, key),), (((key, ONE),),), ((key, ONE), (later, ONE), (key, ONE)), "", {},
            (("reading", "t", "b", 0), ONE), (("told", 0, 0),), ((list(key), ONE),),
        ] + [((bent, ONE),) for bent in NO_KEYS] + [((key, weight),) for weight in NOT_FRACTIONS]
        for value in wrong + ANY_VALUES + NOT_NAMES + [((value, ONE),) for value in ANY_VALUES]:
            if value == ():
                continue
            self.assertIs(is_sum(ROOM, value, TOLD), False, value)
            self.fails(InvalidSum, {}, sum_form, ROOM, value, TOLD)
            self.fails(InvalidSum, {}, sum_form, room=ROOM, value=value)
        self.assertIs(is_sum(ROOM, ((later, ONE),)), False)
        self.assertIs(is_sum(Room(), ((key, ONE),)), False)
        # Ascending is by the keys, not by the order of the rows.
        rows = (("reading", "t", "b", 0), ONE), (("reading", "t", "a", 0), ONE)
        self.assertIs(is_sum(ROOM, rows), False)
        self.assertIs(is_sum(ROOM, tuple(reversed(rows))), True)

    def test_forms_are_multiplied_out(self):
        self.same(sum_form(ROOM, ()), ())
        for _ in range(100):
            total = some_sum(self.rng, KEYS)
            expected = oracle.multiplied_out(ROOM, TOLD, total)
            self.same(sum_form(ROOM, total, TOLD), oracle.as_form(expected))
            self.same(sum_form(told=tuple(TOLD), value=total, room=ROOM), oracle.as_form(expected))

    def test_forms_that_cancel(self):
        room = Room(Sheet("s", "even", [("a", ORIGIN)]), Sheet("t", "even", [("a", ORIGIN)]))
        told = [("same", ("spot", "s", ORIGIN), ("spot", "t", ORIGIN))]
        total = ((("reading", "s", "a", 0), ONE), (("reading", "t", "a", 0), (-1, 1)),
                 (("told", 0, 0), (-1, 1)))
        self.same(sum_form(room, total, told), ())
        self.same(sum_form(ROOM, ((("told", 3, 0), (5, 7)),), TOLD), ())

    def test_plus_and_times(self):
        one = ((("reading", "s", "a", 0), ONE), (("told", 0, 0), (1, 2)))
        other = ((("reading", "s", "a", 0), (-1, 1)), (("told", 0, 1), (1, 2)))
        self.same(sum_plus(one, other), ((("told", 0, 0), (1, 2)), (("told", 0, 1), (1, 2))))
        self.same(sum_plus(other=(), one=one), one)
        self.same(sum_plus((), ()), ())
        self.same(sum_plus(one, sum_times(one, (-1, 1))), ())
        self.same(sum_times(one, ZERO), ())
        self.same(sum_times((), (3, 1)), ())
        self.same(sum_times(weight=(-2, 3), one=one),
                  ((("reading", "s", "a", 0), (-2, 3)), (("told", 0, 0), (-1, 3))))

    def test_plus_and_times_by_forms(self):
        for _ in range(100):
            one, other = some_sum(self.rng, KEYS), some_sum(self.rng, KEYS)
            weight = some_fraction(self.rng, 2)
            both = {}
            for key, value in one + other:
                both[key] = both.get(key, Fraction(0)) + frac(value)
            self.same(sum_plus(one, other), oracle.as_form(both))
            self.assertIs(is_sum(ROOM, sum_plus(one, other), TOLD), True)
            scaled = {key: frac(value) * frac(weight) for key, value in one}
            self.same(sum_times(one, weight), oracle.as_form(scaled))
            expected = oracle.added((frac(weight), oracle.multiplied_out(ROOM, TOLD, one)))
            self.same(sum_form(ROOM, sum_times(one, weight), TOLD), oracle.as_form(expected))


if __name__ == "__main__":
    unittest.main()
