"""Rooms, their sheets and their marks."""

from itertools import permutations
import unittest

from lostland.errors import (
    DuplicateName, InUse, InvalidMark, InvalidName, InvalidSheet, InvalidSpot, TooMany,
    UnknownMark, UnknownReading, UnknownSheet)
from lostland.rooms import Room
from lostland.sheets import Sheet
from tests.support import (
    ANY_VALUES, KINDS, NAMES, NOT_NAMES, NOT_SPOTS, ORIGIN, Case, spot)

LETTERS = "abcdefghijklm"


def sheet(name, marks="", kind="turned"):
    """A sheet that reads one mark for each letter, the first two at one spot."""
    return Sheet(name, kind, [(mark, spot(max(at - 1, 0), 0)) for at, mark in enumerate(marks)])


def some_sheets(many):
    return [sheet(LETTERS[at] + "s", LETTERS[:at + 1]) for at in range(many)]


class TestRoom(Case):
    def check(self, room, sheets, loose=()):
        """All that a room answers, worked out from its sheets and its loose marks."""
        read = {mark for one in sheets for mark in one.marks()}
        marks = sorted(read | set(loose))
        self.assertIs(type(room), Room)
        self.same(room.names(), [one.name for one in sheets])
        self.assertEqual(room.sheets(), list(sheets))
        self.assertEqual(list(room), list(sheets))
        self.same(room.marks(), marks)
        self.same(room.loose(), sorted(loose))
        self.same(room.readings(), [(one.name, mark) for one in sheets for mark in one.marks()])
        self.same(len(room), len(sheets))
        self.same(repr(room), f"Room({len(sheets)} sheets, {len(marks)} marks)")
        self.assertIs(room.is_free, all(
            one.kind in ("slanted", "turned", "mirrored") for one in sheets))
        for one in sheets:
            self.assertEqual(room.sheet(one.name), one)
            self.assertIs(one.name in room, True)
        for mark in marks:
            self.same(room.readers(mark), [one.name for one in sheets if mark in one.marks()])

    def test_of_each_size(self):
        for many in range(9):
            sheets = some_sheets(many)
            self.check(Room(*sheets), sheets)
            self.check(Room(*sheets, marks=["y", "x"]), sheets, ["x", "y"])
        self.check(Room(), [])

    def test_marks_that_are_read_too(self):
        one, other = sheet("s", "ab"), sheet("t", "bc")
        self.check(Room(one, other, marks=["c", "x", "a"]), [one, other], ["x"])
        self.check(Room(marks=("b", "a")), [], ["a", "b"])
        self.check(Room(one, marks=[]), [one])
        self.check(Room(marks=[one for one in NAMES]), [], NAMES)

    def test_kinds(self):
        for kind in KINDS:
            self.check(Room(sheet("s"), sheet("t", "ab", kind)), [sheet("s"), sheet("t", "ab", kind)])

    def test_names_of_sheets_may_be_marks(self):
        one = sheet("a", "ab")
        self.check(Room(one, marks=["end"]), [one], ["end"])

    def test_values_that_are_no_sheets(self):
        for value in ANY_VALUES:
            if isinstance(value, Sheet):
                continue
            for at in (0, 1, 8, 9):
                given = [sheet("s")] * at + [value, None]
                self.fails(InvalidSheet, {"at": at}, Room, *given, marks=None)
        self.fails(InvalidSheet, {"at": 0}, Room, [sheet("s")])

    def test_too_many_sheets(self):
        self.fails(TooMany, {"most": 8}, Room, *some_sheets(9))
        self.fails(TooMany, {"most": 8}, Room, *some_sheets(9), marks=None)
        self.fails(TooMany, {"most": 8}, Room, *([sheet("s")] * 9))
        self.fails(TooMany, {"most": 8}, Room, *some_sheets(9), marks=list(LETTERS))

    def test_names_that_stand_ahead(self):
        s, t = sheet("s", "ab"), sheet("t")
        self.fails(DuplicateName, {"name": "s"}, Room, s, t, sheet("s", "c"), t)
        self.fails(DuplicateName, {"name": "t"}, Room, s, t, t, s, marks=None)
        self.fails(DuplicateName, {"name": "s"}, Room, s, s, marks=list(LETTERS))

    def test_marks_that_are_no_list_or_tuple(self):
        for value in ANY_VALUES + [Room(marks=["a"]), "ab"]:
            if not isinstance(value, (list, tuple)):
                self.fails(InvalidMark, {"at": -1}, Room, sheet("s", "ab"), marks=value)

    def test_the_first_wrong_mark(self):
        for value in NOT_NAMES + ANY_VALUES:
            if value in NAMES:
                continue
            for at, marks in [(0, [value]), (1, ["x", value, None]), (2, ["x", "y", value]),
                              (13, tuple(LETTERS) + (value,))]:
                self.fails(InvalidMark, {"at": at}, Room, sheet("s", "a"), marks=marks)
        self.fails(InvalidMark, {"at": 2}, Room, marks=["x", "y", "x", "y", None])
        self.fails(InvalidMark, {"at": 1}, Room, marks=("y", "y"))

    def test_too_many_marks(self):
        full = sheet("s", LETTERS[:12])
        self.check(Room(full), [full])
        self.check(Room(full, marks=list(LETTERS[:12])), [full])
        self.check(Room(marks=list(LETTERS[:12])), [], list(LETTERS[:12]))
        self.fails(TooMany, {"most": 12}, Room, full, marks=["x"])
        self.fails(TooMany, {"most": 12}, Room, full, sheet("t", "m"))
        self.fails(TooMany, {"most": 12}, Room, marks=list(LETTERS))
        self.fails(TooMany, {"most": 12}, Room, sheet("s", "abcdef"), sheet("t", "ghijk"),
                   marks=["l", "m"])

    def test_sheet_of_any_value(self):
        room = Room(sheet("s", "ab"), sheet("mark"), marks=["x"])
        for value in ANY_VALUES + NOT_NAMES + ["b", "x", "st", 0]:
            if value in ("mark",):
                continue
            self.assertIs(value in room, False)
            self.fails(UnknownSheet, {"name": value}, room.sheet, value)
            self.fails(UnknownSheet, {"name": value}, room.without_sheet, value)
            self.fails(UnknownSheet, {"name": value}, room.with_reading, value, None, None)
            self.fails(UnknownSheet, {"name": value}, room.without, value, None)
        self.assertEqual(room.sheet(name="s"), sheet("s", "ab"))
        self.assertIs("s" in room, True)

    def test_marks_of_any_value(self):
        room = Room(sheet("s", "ab"), marks=["x"])
        for value in ANY_VALUES + NOT_NAMES + ["s", "c", "ab"]:
            if value in ("a", "b", "x"):
                continue
            self.fails(UnknownMark, {"name": value}, room.readers, value)
            self.fails(UnknownMark, {"name": value}, room.without_mark, value)
            self.fails(UnknownReading, {"name": "s", "mark": value}, room.without, "s", value)
        self.fails(UnknownReading, {"name": "s", "mark": "x"}, room.without, "s", "x")
        self.same(room.readers(mark="x"), [])
        self.same(room.readers(mark="b"), ["s"])

    def test_with_sheet(self):
        s, t, u = sheet("s", "ab"), sheet("t", "bc"), sheet("u", "a", "even")
        room = Room(s, t, marks=["x"])
        self.check(room.with_sheet(u), [s, t, u], ["x"])
        other = sheet("s", "yz")
        self.check(room.with_sheet(sheet=other), [other, t], ["a", "x"])
        self.check(room.with_sheet(sheet("t")), [s, sheet("t")], ["c", "x"])
        self.check(room.with_sheet(sheet("t", "x")), [s, sheet("t", "x")], ["c"])
        self.check(room, [s, t], ["x"])

    def test_with_sheet_raises_in_order(self):
        full = Room(*some_sheets(8), marks=list("ijkl"))
        for value in ANY_VALUES:
            if not isinstance(value, Sheet):
                self.fails(InvalidSheet, {"at": -1}, full.with_sheet, value)
        self.fails(TooMany, {"most": 8}, full.with_sheet, sheet("new", "m"))
        self.fails(TooMany, {"most": 8}, full.with_sheet, sheet("new"))
        self.fails(TooMany, {"most": 12}, full.with_sheet, sheet("as", "m"))
        self.check(full.with_sheet(sheet("as", "l")), [sheet("as", "l")] + some_sheets(8)[1:], "ijk")
        # The marks of a sheet stay when another one takes its place.
        room = Room(sheet("s", LETTERS[:12]))
        self.fails(TooMany, {"most": 12}, room.with_sheet, sheet("s", "m"))
        self.fails(TooMany, {"most": 12}, room.with_sheet, sheet("t", "m"))
        self.check(room, [sheet("s", LETTERS[:12])])

    def test_without_sheet(self):
        s, t, u = sheet("s", "ab"), sheet("t", "bc"), sheet("u", "a")
        room = Room(s, t, u, marks=["x"])
        self.check(room.without_sheet("t"), [s, u], ["c", "x"])
        self.check(room.without_sheet(name="s"), [t, u], ["x"])
        self.check(room.without_sheet("u"), [s, t], ["x"])
        self.check(Room(s).without_sheet("s"), [], ["a", "b"])
        self.check(room, [s, t, u], ["x"])

    def test_with_reading(self):
        s, t = sheet("s", "ab"), sheet("t", "bc")
        room = Room(s, t, marks=["x"])
        more = Sheet("s", "turned", s.readings() + [("x", spot(9, 9))])
        self.check(room.with_reading("s", "x", spot(9, 9)), [more, t])
        more = Sheet("t", "turned", t.readings() + [("z", ORIGIN)])
        self.check(room.with_reading(spot=ORIGIN, mark="z", name="t"), [s, more], ["x"])
        other = Sheet("s", "turned", [("a", spot(4, 5)), s.readings()[1]])
        self.check(room.with_reading("s", "a", spot(4, 5)), [other, t], ["x"])
        self.check(room, [s, t], ["x"])

    def test_with_reading_raises_in_order(self):
        room = Room(sheet("s", "ab"), sheet("t"), marks=list("cdefghijkl"))
        for value in NOT_NAMES:
            self.fails(InvalidName, {"value": value}, room.with_reading, "s", value, None)
        for value in NOT_SPOTS:
            self.fails(InvalidSpot, {"value": value}, room.with_reading, "s", "x", value)
            self.fails(InvalidSpot, {"value": value}, room.with_reading, "t", "a", value)
        self.fails(TooMany, {"most": 12}, room.with_reading, "s", "x", ORIGIN)
        self.fails(TooMany, {"most": 12}, room.with_reading, "t", "m", ORIGIN)
        self.same(room.with_reading("t", "l", ORIGIN).readers("l"), ["t"])
        full = Room(sheet("s", LETTERS[:12]))
        self.fails(TooMany, {"most": 12}, full.with_reading, "s", "x", ORIGIN)
        self.same(full.with_reading("s", "l", spot(7, 7)).sheet("s").spot("l"), spot(7, 7))
        self.check(room, [sheet("s", "ab"), sheet("t")], list("cdefghijkl"))

    def test_without(self):
        s, t = sheet("s", "ab"), sheet("t", "bc")
        room = Room(s, t, marks=["x"])
        self.check(room.without("s", "a"), [s.without("a"), t], ["a", "x"])
        self.check(room.without(mark="b", name="t"), [s, t.without("b")], ["x"])
        self.check(room, [s, t], ["x"])
        self.fails(UnknownReading, {"name": "t", "mark": "a"}, room.without, "t", "a")
        self.fails(UnknownSheet, {"name": "a"}, room.without, "a", "a")

    def test_with_mark(self):
        s = sheet("s", "ab")
        room = Room(s, marks=["x"])
        self.check(room.with_mark("c"), [s], ["c", "x"])
        self.check(room.with_mark(mark="zzzzzz"), [s], ["x", "zzzzzz"])
        for mark in ("a", "b", "x"):
            self.check(room.with_mark(mark), [s], ["x"])
            self.assertEqual(room.with_mark(mark), room)
        for value in NOT_NAMES:
            self.fails(InvalidName, {"value": value}, room.with_mark, value)
        full = Room(s, marks=list("cdefghijkl"))
        self.fails(TooMany, {"most": 12}, full.with_mark, "m")
        self.fails(InvalidName, {"value": "M"}, full.with_mark, "M")
        self.assertEqual(full.with_mark("l"), full)
        self.assertEqual(full.with_mark("a"), full)
        self.check(room, [s], ["x"])

    def test_without_mark(self):
        s = sheet("s", "ab")
        room = Room(s, sheet("t", "b"), marks=["x", "y"])
        self.check(room.without_mark("x"), [s, sheet("t", "b")], ["y"])
        self.check(room.without_mark(mark="y"), [s, sheet("t", "b")], ["x"])
        self.fails(InUse, {"name": "a"}, room.without_mark, "a")
        self.fails(InUse, {"name": "b"}, room.without_mark, "b")
        self.fails(UnknownMark, {"name": "s"}, room.without_mark, "s")
        self.check(room, [s, sheet("t", "b")], ["x", "y"])

    def test_equality(self):
        s, t = sheet("s", "ab"), sheet("t", "bc")
        room = Room(s, t, marks=["x", "y"])
        for same in (Room(s, t, marks=("y", "x")), Room(s, t, marks=["a", "y", "c", "x"])):
            self.assertTrue(room == same)
            self.assertFalse(room != same)
        for other in (Room(t, s, marks=["x", "y"]), Room(s, t), Room(s, t, marks=["x"]),
                      Room(s, marks=["c", "x", "y"]), Room(s, t.of_kind("even"), marks=["x", "y"]),
                      Room(s, t, marks=["x", "z"]), Room()):
            self.assertFalse(room == other)
            self.assertTrue(room != other)
        for order in permutations(["x", "y", "z"]):
            self.assertEqual(Room(marks=list(order)), Room(marks=["x", "y", "z"]))

    def test_equals_nothing_of_another_class(self):
        for room in (Room(), Room(sheet("s"))):
            for value in ANY_VALUES + [[], room.sheets(), tuple(room.sheets()), sheet("s")]:
                if not isinstance(value, Room):
                    self.assertIs(room == value, False)
                    self.assertIs(value == room, False)

    def test_always_true(self):
        self.assertIs(bool(Room()), True)
        self.assertIs(bool(Room(sheet("s"))), True)

    def test_iterating(self):
        room = Room(*some_sheets(3))
        self.assertEqual([one.name for one in room], ["as", "bs", "cs"])
        self.assertEqual([(one.name, other.name) for one in room for other in room][3], ("bs", "as"))

    def test_repr(self):
        self.same(repr(Room(sheet("s", "abc"), sheet("t", "cde"))), "Room(2 sheets, 5 marks)")
        self.same(repr(Room(sheet("s", "a"))), "Room(1 sheets, 1 marks)")
        self.same(repr(Room()), "Room(0 sheets, 0 marks)")

    def test_lists_that_are_changed_behind_the_call(self):
        sheets, marks = [sheet("s", "ab"), sheet("t", "bc")], ["y", "x"]
        room = Room(*sheets, marks=marks)
        self.same(marks, ["y", "x"])
        marks.append("z")
        sheets.pop()
        for answer in (room.sheets(), room.names(), room.marks(), room.loose(), room.readings(),
                       room.readers("b")):
            self.assertIs(type(answer), list)
            answer.append("more")
            answer.pop(0)
        self.check(room, [sheet("s", "ab"), sheet("t", "bc")], ["x", "y"])
        room.with_sheet(sheet("u")).sheets().clear()
        room.with_mark("z").marks().clear()
        self.check(room, [sheet("s", "ab"), sheet("t", "bc")], ["x", "y"])


if __name__ == "__main__":
    unittest.main()
