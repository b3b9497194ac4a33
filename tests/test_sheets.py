"""Sheets and their readings."""

import unittest

from lostland.errors import (
    InvalidKind, InvalidName, InvalidReading, InvalidSpot, TooMany, UnknownMark)
from lostland.rooms import Room
from lostland.sheets import Sheet
from tests.support import (
    ANY_VALUES, KINDS, NAMES, NOT_KINDS, NOT_NAMES, NOT_SPOTS, ORIGIN, SPOTS, Case, spot)

LETTERS = "abcdefghijklm"


def rows(many):
    """Readings of different marks, every two at one spot."""
    return [(LETTERS[at], spot(at // 2, -at // 2)) for at in range(many)]


class TestSheet(Case):
    def check(self, sheet, name, kind, readings):
        self.same((sheet.name, sheet.kind), (name, kind))
        self.same(sheet.readings(), list(readings))
        self.same(sheet.marks(), [mark for mark, _ in readings])
        self.same(len(sheet), len(readings))
        self.same(repr(sheet), f"Sheet({kind} {name}, {len(readings)} readings)")
        for mark, place in readings:
            self.same(sheet.spot(mark), place)
            self.assertIs(mark in sheet, True)

    def test_of_each_size(self):
        for many in (0, 1, 2, 11, 12):
            for kind in KINDS:
                self.check(Sheet("s", kind, rows(many)), "s", kind, rows(many))
                self.check(Sheet("s", kind, tuple(rows(many))), "s", kind, rows(many))

    def test_arguments_by_name_and_left_out(self):
        self.check(Sheet("s", "even"), "s", "even", [])
        self.check(Sheet(kind="even", name="s"), "s", "even", [])
        self.check(Sheet(readings=rows(2), kind="even", name="s"), "s", "even", rows(2))

    def test_names_of_sheets_and_marks(self):
        for name in NAMES:
            self.check(Sheet(name, "turned", [(name, ORIGIN)]), name, "turned", [(name, ORIGIN)])

    def test_spots_of_any_size(self):
        readings = [(LETTERS[at], place) for at, place in enumerate(SPOTS)]
        self.check(Sheet("s", "slanted", readings), "s", "slanted", readings)

    def test_invalid_name(self):
        for value in NOT_NAMES:
            self.fails(InvalidName, {"value": value}, Sheet, value, "turned")
            self.fails(InvalidName, {"value": value}, Sheet, value, None, 5)
            self.fails(InvalidName, {"value": value}, Sheet("s", "even").named, value)

    def test_invalid_kind(self):
        for value in NOT_KINDS:
            self.fails(InvalidKind, {"value": value}, Sheet, "s", value)
            self.fails(InvalidKind, {"value": value}, Sheet, "s", value, [None] * 13)
            self.fails(InvalidKind, {"value": value}, Sheet("s", "even").of_kind, value)

    def test_readings_that_are_no_list_or_tuple(self):
        for value in ANY_VALUES + [Sheet("s", "turned", rows(2)), "abc"]:
            if not isinstance(value, (list, tuple)):
                self.fails(InvalidReading, {"at": -1}, Sheet, "s", "turned", value)
        self.fails(InvalidReading, {"at": -1}, Sheet, "s", "turned", readings=None)

    def test_too_many_readings(self):
        self.fails(TooMany, {"most": 12}, Sheet, "s", "turned", rows(13))
        self.fails(TooMany, {"most": 12}, Sheet, "s", "turned", [None] * 13)
        self.fails(TooMany, {"most": 12}, Sheet, "s", "turned", tuple(rows(1) * 13))
        self.fails(TooMany, {"most": 12}, Sheet, "s", "turned", rows(12) + rows(12))

    def test_the_first_wrong_reading(self):
        wrong = [item for item in ANY_VALUES if item != ("a", ORIGIN)]
        wrong += [("a", value) for value in NOT_SPOTS] + [(value, ORIGIN) for value in NOT_NAMES]
        wrong += [["a", ORIGIN], ("x",), ("x", ORIGIN, ORIGIN), (ORIGIN, "x"), ("a", ORIGIN)]
        for value in wrong:
            for at in (1, 2, 5):
                given = rows(at) + [value, None]
                self.fails(InvalidReading, {"at": at}, Sheet, "s", "turned", given)
        self.fails(InvalidReading, {"at": 0}, Sheet, "s", "turned", [None, None])
        self.fails(InvalidReading, {"at": 0}, Sheet, "s", "turned", ((("a", ORIGIN),),))

    def test_a_mark_that_stands_ahead(self):
        self.fails(InvalidReading, {"at": 1}, Sheet, "s", "turned",
                   [("a", ((0, 1), (1, 1))), ("a", ORIGIN)])
        self.fails(InvalidReading, {"at": 3}, Sheet, "s", "turned",
                   rows(3) + [("b", ORIGIN), ("a", ORIGIN)])

    def test_two_marks_at_one_spot(self):
        readings = [("a", ORIGIN), ("b", ORIGIN)]
        self.check(Sheet("s", "turned", readings), "s", "turned", readings)

    def test_spot_and_contains_of_any_value(self):
        sheet = Sheet("s", "turned", [("a", ORIGIN), ("mark", spot(1, 2))])
        for value in ANY_VALUES + NOT_NAMES + ["b", "s", "turned", "ab"]:
            if value in ("a", "mark"):
                continue
            self.assertIs(value in sheet, False)
            self.fails(UnknownMark, {"name": value}, sheet.spot, value)
            self.fails(UnknownMark, {"name": value}, sheet.without, value)
        self.same(sheet.spot(mark="mark"), spot(1, 2))

    def test_with_reading(self):
        for many in (0, 1, 3, 11):
            sheet = Sheet("s", "turned", rows(many))
            changed = sheet.with_reading("x", spot(7, "1/2"))
            self.check(changed, "s", "turned", rows(many) + [("x", spot(7, "1/2"))])
            self.check(sheet, "s", "turned", rows(many))
        sheet = Sheet("s", "turned", rows(12))
        changed = sheet.with_reading(spot=spot(7, 8), mark="c")
        self.check(changed, "s", "turned", rows(2) + [("c", spot(7, 8))] + rows(12)[3:])
        self.check(sheet, "s", "turned", rows(12))
        self.assertEqual(sheet.with_reading("c", sheet.spot("c")), sheet)

    def test_with_reading_raises_in_order(self):
        full = Sheet("s", "turned", rows(12))
        for value in NOT_NAMES:
            self.fails(InvalidName, {"value": value}, full.with_reading, value, None)
        for value in NOT_SPOTS:
            self.fails(InvalidSpot, {"value": value}, full.with_reading, "x", value)
            self.fails(InvalidSpot, {"value": value}, full.with_reading, "a", value)
        self.fails(TooMany, {"most": 12}, full.with_reading, "x", ORIGIN)
        self.check(full, "s", "turned", rows(12))

    def test_without(self):
        sheet = Sheet("s", "turned", rows(3))
        self.check(sheet.without("b"), "s", "turned", [rows(3)[0], rows(3)[2]])
        self.check(sheet.without(mark="c"), "s", "turned", rows(2))
        self.check(Sheet("s", "even", rows(1)).without("a"), "s", "even", [])
        self.check(sheet, "s", "turned", rows(3))

    def test_named_and_of_kind(self):
        sheet = Sheet("s", "turned", rows(3))
        self.check(sheet.named("abcdef"), "abcdef", "turned", rows(3))
        self.check(sheet.named(name="t"), "t", "turned", rows(3))
        for kind in KINDS:
            self.check(sheet.of_kind(kind), "s", kind, rows(3))
        self.check(sheet.of_kind(kind="even"), "s", "even", rows(3))
        self.check(sheet, "s", "turned", rows(3))

    def test_equality(self):
        one = Sheet("s", "turned", rows(3))
        self.assertTrue(one == Sheet("s", "turned", tuple(rows(3))))
        self.assertFalse(one != Sheet("s", "turned", rows(3)))
        for other in (one.named("t"), one.of_kind("mirrored"), one.without("c"),
                      Sheet("s", "turned", rows(3)[::-1]), one.with_reading("a", spot(5, 5)),
                      Sheet("s", "turned")):
            self.assertFalse(one == other)
            self.assertTrue(one != other)

    def test_equals_nothing_of_another_class(self):
        one = Sheet("s", "turned")
        for value in ANY_VALUES + ["s", [], rows(0), Room(one)]:
            if not isinstance(value, Sheet):
                self.assertIs(one == value, False)
                self.assertIs(value == one, False)

    def test_always_true(self):
        self.assertIs(bool(Sheet("s", "turned")), True)
        self.assertIs(bool(Sheet("s", "turned", rows(1))), True)

    def test_repr(self):
        self.same(repr(Sheet("s", "turned", rows(3))), "Sheet(turned s, 3 readings)")
        self.same(repr(Sheet("t", "even", rows(1))), "Sheet(even t, 1 readings)")

    def test_lists_that_are_changed_behind_the_call(self):
        given = rows(3)
        sheet = Sheet("s", "turned", given)
        given.append(("x", ORIGIN))
        given[0] = ("y", ORIGIN)
        self.check(sheet, "s", "turned", rows(3))
        sheet.readings().append(("x", ORIGIN))
        sheet.readings().clear()
        sheet.marks().clear()
        self.check(sheet, "s", "turned", rows(3))
        other = sheet.of_kind("even")
        other.readings().clear()
        self.check(sheet, "s", "turned", rows(3))
        self.check(other, "s", "even", rows(3))

    def test_given_lists_stay_as_they_are(self):
        given = rows(3)
        Sheet("s", "turned", given).with_reading("x", ORIGIN).without("a")
        self.same(given, rows(3))


if __name__ == "__main__":
    unittest.main()
