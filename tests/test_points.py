"""Points of a room and their texts."""

import unittest

from lostland.errors import InvalidPoint
from lostland.points import is_point, point_text, read_point
from lostland.rooms import Room
from lostland.sheets import Sheet
from tests.support import (
    ANY_VALUES, BIG, NAMES, NOT_NAMES, NOT_SPOTS, ORIGIN, SPOTS, Case, nested, some_spot, spot)

ROOM = Room(Sheet("s", "turned", [("a", ORIGIN), ("spot", ORIGIN)]), Sheet("mark", "even"),
            marks=["mark", "z"])
MARKS = ["a", "mark", "spot", "z"]
SHEETS = ["s", "mark"]


class TestPoints(Case):
    def test_points_are_let(self):
        for mark in MARKS:
            self.assertIs(is_point(ROOM, ("mark", mark)), True)
        for name in SHEETS:
            for place in SPOTS + [some_spot(self.rng) for _ in range(10)]:
                self.assertIs(is_point(ROOM, ("spot", name, place)), True)
        huge = ((BIG ** 50, 1), (1, BIG ** 50))
        self.assertIs(is_point(ROOM, ("spot", "s", huge)), True)
        self.assertIs(is_point(value=("mark", "a"), room=ROOM), True)

    def test_nothing_else_is_let(self):
        wrong = ANY_VALUES + NOT_NAMES + NAMES
        for value in wrong:
            if value != ("mark", "a"):
                self.assertIs(is_point(ROOM, value), False, value)
            if value not in MARKS:
                self.assertIs(is_point(ROOM, ("mark", value)), False, value)
            if value not in SHEETS:
                self.assertIs(is_point(ROOM, ("spot", value, ORIGIN)), False, value)
            if value != "mark":
                self.assertIs(is_point(ROOM, (value, "a")), False, value)
            if value != "spot":
                self.assertIs(is_point(ROOM, (value, "s", ORIGIN)), False, value)
        for value in NOT_SPOTS:
            self.assertIs(is_point(ROOM, ("spot", "s", value)), False, value)
        for value in [["mark", "a"], ["spot", "s", ORIGIN], ("mark", "a", "a"), ("mark",), ("spot",),
                      ("spot", "s"), ("spot", "s", ORIGIN, ORIGIN), ("mark", "s"), (),
                      ("spot", "a", ORIGIN), ("mark", "s", ORIGIN), ("spot", "a"), "s:0:0",
                      ("spot", "s", (0, 1), (0, 1)), ("spot", "s", list(ORIGIN)), ("mark", ("a",)),
                      nested(11, ("mark", "a"))]:
            self.assertIs(is_point(ROOM, value), False, value)

    def test_only_points_of_the_room(self):
        self.assertIs(is_point(Room(), ("mark", "a")), False)
        self.assertIs(is_point(Room(), ("spot", "s", ORIGIN)), False)
        self.assertIs(is_point(Room(Sheet("a", "even")), ("mark", "a")), False)
        self.assertIs(is_point(Room(marks=["a"]), ("spot", "a", ORIGIN)), False)

    def test_texts(self):
        self.same(point_text(("mark", "a")), "a")
        self.same(point_text(("spot", "s", spot("1/2", 0))), "s:1/2:0")
        self.same(point_text(point=("spot", "mark", spot(-3, "-4/5"))), "mark:-3:-4/5")
        self.same(point_text(("spot", "s", ((BIG, 1), (1, BIG)))), f"s:{BIG}:1/{BIG}")

    def test_texts_are_read_back(self):
        points = [("mark", mark) for mark in MARKS]
        most = ((10 ** 4000 - 1, 1), (-1, 10 ** 4000 - 1))
        for name in SHEETS:
            places = SPOTS[:-1] + [most] + [some_spot(self.rng, 9) for _ in range(40)]
            points += [("spot", name, place) for place in places]
        for point in points:
            self.same(read_point(ROOM, point_text(point)), point)
        self.same(read_point(text="s:1/2:0", room=ROOM), ("spot", "s", spot("1/2", 0)))
        self.same(read_point(ROOM, "mark"), ("mark", "mark"))
        self.same(read_point(ROOM, "mark:0:0"), ("spot", "mark", ORIGIN))

    def test_nothing_else_is_read(self):
        texts = ["", " ", "s", "b", "A", "a ", " a", "a\n", "a:0:0", "z:0:0", "s:", "s:0", "s:0:",
                 "s::0", ":0:0", "s:0:0:", "s:0:0:0", ":s:0:0", "s:0:0 ", " s:0:0", "s :0:0",
                 "s: 0:0", "s:00:0", "s:-0:0", "s:2/4:0", "s:0:1/1", "s:0:1/0", "s:0:+1", "s:0;0",
                 "s 0 0", "S:0:0", "s:0:x", "s:x:0", "spot:0:0", "mark a", "s:0/1:0", "t:0:0",
                 "s:1" + "0" * 4000 + ":0", "s:0:1/1" + "0" * 4000, "(0, 1)", "mark:a", "s:a:a"]
        for value in texts + ANY_VALUES + NOT_NAMES + NAMES:
            if value not in MARKS:
                self.fails(InvalidPoint, {"value": value}, read_point, ROOM, value)
        self.fails(InvalidPoint, {"value": "a"}, read_point, Room(), "a")
        self.fails(InvalidPoint, {"value": "s:0:0"}, read_point, text="s:0:0", room=Room())


if __name__ == "__main__":
    unittest.main()
