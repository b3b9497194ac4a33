"""The text of a room, and the room read back from it."""

import re
import unittest

from lostland.errors import InvalidText
from lostland.rooms import Room
from lostland.sheets import Sheet
from lostland.texts import read_room, room_text
from tests.support import (
    ANY_VALUES, BIG, KINDS, NAMES, ORIGIN, SPOTS, Case, some_spot, spot)

LETTERS = "abcdefghijklm"
NUMBER = r"(0|-?[1-9][0-9]*)"
HEAD = re.compile(r"sheet ([a-z]{1,6}) (slanted|turned|mirrored|stretched|sized|even)")
READING = re.compile(rf"([a-z]{{1,6}}) ({NUMBER}(/[0-9]+)?) ({NUMBER}(/[0-9]+)?)")
LOOSE = re.compile(r"mark ([a-z]{1,6})")


def fraction_of(text):
    """The fraction of a text of digits, a slash and digits; None if it is not in its one form."""
    over, _, under = text.partition("/")
    if "/" not in text:
        return (int(over), 1)
    if under[0] == "0" or under == "1" or any(
            int(over) % n == int(under) % n == 0 for n in range(2, int(under) + 1)):
        return None
    return (int(over), int(under))


def judged(text):
    """What [8] says of a text: (line, word), or the sheets and the loose marks."""
    *lines, rest = text.split("\n")
    sheets, loose, inside = [], [], False
    for at, line in enumerate(lines):
        read = {mark for _, _, readings in sheets for mark, _ in readings}
        head, loosed = HEAD.fullmatch(line), LOOSE.fullmatch(line)
        reading = READING.fullmatch(line)
        if inside:
            if line == "end":
                inside = False
                continue
            place = reading and (fraction_of(reading[2]), fraction_of(reading[5]))
            if not place or None in place:
                return (at, "form")
            readings = sheets[-1][2]
            if reading[1] in dict(readings):
                return (at, "double")
            if len(read | {reading[1]}) > 12:
                return (at, "many")
            readings.append((reading[1], place))
        elif head and not loose:
            if head[1] in [name for name, _, _ in sheets]:
                return (at, "double")
            if len(sheets) == 8:
                return (at, "many")
            sheets.append((head[1], head[2], []))
            inside = True
        elif loosed:
            if loosed[1] in read | set(loose):
                return (at, "double")
            if len(read) + len(loose) == 12:
                return (at, "many")
            if loose and loosed[1] < max(loose):
                return (at, "order")
            loose.append(loosed[1])
        else:
            return (at, "form")
    if rest:
        return (len(lines), "form")
    if inside:
        return (len(lines), "missing")
    return (sheets, loose)


def some_room(rng, sheets, marks):
    """A room with so many sheets and marks, some of them loose."""
    names = rng.sample(NAMES + ["s", "t", "u", "v"], sheets)
    pool = sorted(rng.sample(sorted({*NAMES, *LETTERS}), marks))
    made = []
    for name in names:
        read = rng.sample(pool, rng.randint(0, marks))
        made.append(Sheet(name, rng.choice(KINDS), [(mark, some_spot(rng, 3)) for mark in read]))
    return Room(*made, marks=pool)


class TestTexts(Case):
    def check(self, text):
        """Checks what is read of a text against what is to be said of it."""
        expected = judged(text)
        if isinstance(expected[1], str):
            line, why = expected
            self.fails(InvalidText, {"line": line, "why": why}, read_room, text)
            return why
        room = read_room(text)
        sheets, loose = expected
        self.same([(one.name, one.kind, one.readings()) for one in room.sheets()], sheets)
        self.same(room.loose(), loose)
        self.same(room_text(room), text)
        return None

    def says(self, text, line, why):
        self.fails(InvalidText, {"line": line, "why": why}, read_room, text)
        self.assertEqual(judged(text), (line, why))

    def test_written(self):
        room = Room(Sheet("s", "turned", [("b", spot("1/2", -3)), ("a", ORIGIN)]),
                    Sheet("end", "even"), marks=["z", "a", "mark"])
        self.same(room_text(room), "sheet s turned\nb 1/2 -3\na 0 0\nend\nsheet end even\nend\n"
                                   "mark mark\nmark z\n")
        self.same(room_text(room=Room()), "")
        self.same(room_text(Room(marks=["b", "a"])), "mark a\nmark b\n")

    def test_read(self):
        room = read_room("sheet s turned\nb 1/2 -3\na 0 0\nend\nsheet t even\nend\nmark z\n")
        self.assertEqual(room, Room(Sheet("s", "turned", [("b", spot("1/2", -3)), ("a", ORIGIN)]),
                                    Sheet("t", "even"), marks=["z"]))
        self.assertEqual(read_room(""), Room())
        self.assertEqual(read_room(text="mark a\n"), Room(marks=["a"]))

    def test_rooms_are_read_back(self):
        for sheets in range(9):
            for marks in range(13):
                room = some_room(self.rng, sheets, marks)
                text = room_text(room)
                self.assertEqual(read_room(text), room)
                self.assertIsNone(self.check(text))

    def test_big_numbers(self):
        readings = [(LETTERS[at], place) for at, place in enumerate(SPOTS[:-1])]
        readings.append(("x", ((10 ** 4000 - 1, 1), (-1, 10 ** 4000 - 1))))
        room = Room(Sheet("s", "slanted", readings), Sheet("t", "even", [("y", ((BIG, 1),) * 2)]))
        text = room_text(room)
        self.assertEqual(read_room(text), room)
        longer = f"sheet s even\na 0 1{'0' * 4000}\nend\n"
        self.fails(InvalidText, {"line": 1, "why": "form"}, read_room, longer)

    def test_values_that_are_no_strings(self):
        for value in ANY_VALUES + [["sheet s even\n", "end\n"], Room()]:
            if not isinstance(value, str):
                self.fails(InvalidText, {"line": 0, "why": "form"}, read_room, value)
        self.fails(InvalidText, {"line": 0, "why": "form"}, read_room, text=None)

    def test_form_outside_of_sheets(self):
        lines = ["", " ", "end", "a 0 0", "sheet", "sheet s", "sheet s turned x", "sheet  s turned",
                 "sheet s turned ", " sheet s turned", "sheet S turned", "sheet s Turned",
                 "sheet s free", "sheet abcdefg turned", "sheet s1 turned", "sheet turned s",
                 "Sheet s turned", "mark", "mark ", "mark a ", " mark a", "mark  a", "mark A",
                 "mark a b", "mark abcdefg", "mark 0 0", "Mark a", "marks a", "mark a:b", "a",
                 "told same a b", "sheet s turned\r", "mark a\r", "sheet\ts\tturned", "end end"]
        for line in lines:
            self.says(f"{line}\n", 0, "form")
            self.says(f"sheet x even\nend\n{line}\nend\n", 2, "form")
            self.says(f"mark b\n{line}\nmark b\n", 1, "form")

    def test_form_within_sheets(self):
        lines = ["", " ", "end ", " end", "END", "ends", "end end", "a", "a 0", "a 0 0 0", "a  0 0",
                 "a 0  0", " a 0 0", "a 0 0 ", "A 0 0", "abcdefg 0 0", "a1 0 0", "a 0 00", "a 00 0",
                 "a -0 0", "a 0 +1", "a 1/1 0", "a 0 2/4", "a 1/0 0", "a 0/1 0", "a 0 1/-2",
                 "a 0 01", "a 0 1.0", "a 0 x", "a 0,0", "sheet t even", "mark b", "mark b 0",
                 "a 0 --1", "a /2 0", "a 1/ 0", "a 0 1/02", "0 0 0", "end 0", "a\t0\t0"]
        for line in lines:
            self.says(f"sheet s even\n{line}\n", 1, "form")
            self.says(f"sheet s even\nx 0 0\n{line}\nx 0 0\nend\n", 2, "form")

    def test_sheets_behind_loose_marks(self):
        self.says("mark a\nsheet s even\nend\n", 1, "form")
        self.says("sheet s even\nend\nmark a\nsheet s even\nend\n", 3, "form")

    def test_double(self):
        self.says("sheet s even\nend\nsheet s turned\nend\n", 2, "double")
        self.says("sheet s even\nend\nsheet t even\nend\nsheet s even\n", 4, "double")
        self.says("sheet s even\na 0 0\na 1 1\nend\n", 2, "double")
        self.says("sheet s even\na 0 0\nb 0 0\na 0 0\nend\n", 3, "double")
        self.says("sheet s even\na 0 0\nend\nmark a\n", 3, "double")
        self.says("mark a\nmark a\n", 1, "double")
        self.says("mark a\nmark b\nmark a\n", 2, "double")
        self.assertIsNone(self.check("sheet s even\na 0 0\nend\nsheet t even\na 0 0\nend\n"))
        self.assertIsNone(self.check("sheet s even\ns 0 0\nend\nmark t\n"))

    def test_many(self):
        sheets = "".join(f"sheet {name} even\nend\n" for name in LETTERS[:8])
        self.assertIsNone(self.check(sheets))
        self.says(sheets + "sheet x even\nend\n", 16, "many")
        self.says(sheets + "sheet a even\nend\n", 16, "double")
        readings = "".join(f"{mark} 0 0\n" for mark in LETTERS[:12])
        full = "sheet s even\n" + readings
        self.assertIsNone(self.check(full + "end\n"))
        self.says(full + "m 0 0\nend\n", 13, "many")
        self.says(full + "a 0 0\nend\n", 13, "double")
        self.says(full + "end\nmark m\n", 14, "many")
        self.says(full + "end\nmark l\n", 14, "double")
        self.says(full + "end\nsheet t even\nm 0 0\nend\n", 15, "many")
        self.assertIsNone(self.check(full + f"end\nsheet t even\n{readings}end\n"))
        self.says(full + f"end\nsheet t even\n{readings}m 0 0\n", 27, "many")
        loose = "".join(f"mark {mark}\n" for mark in "bcdefghijklm")
        self.assertIsNone(self.check(loose))
        self.says(loose + "mark n\n", 12, "many")
        self.says(loose + "mark a\n", 12, "many")
        self.says(loose + "mark b\n", 12, "double")
        self.says("sheet s even\na 0 0\nend\n" + loose, 14, "many")

    def test_order(self):
        self.says("mark b\nmark a\n", 1, "order")
        self.says("mark a\nmark c\nmark b\n", 2, "order")
        self.says("mark ab\nmark aa\nmark a\n", 1, "order")
        self.says("sheet s even\nc 0 0\nend\nmark b\nmark a\nmark c\n", 4, "order")
        self.assertIsNone(self.check("mark a\nmark aa\nmark b\nmark ba\n"))
        self.assertIsNone(self.check("sheet s even\nz 0 0\nend\nmark b\n"))

    def test_missing(self):
        self.says("sheet s even\n", 1, "missing")
        self.says("sheet s even\na 0 0\nb 1 1\n", 3, "missing")
        self.says("sheet s even\nend\nsheet t even\nend 0 0\n", 4, "missing")

    def test_a_lacking_line_feed(self):
        for text, line in [("sheet s even", 0), ("mark a", 0), ("x", 0), (" ", 0),
                           ("sheet s even\nend", 1), ("sheet s even\na 0 0", 1),
                           ("sheet s even\nend\nmark b\nmark a", 3), ("mark a\nmark a", 1),
                           ("sheet s even\nend\nsheet s even", 2), ("mark a\n ", 1)]:
            self.says(text, line, "form")

    def test_the_first_wrong_line_counts(self):
        self.says("sheet s even\na 0 0\na 0 0\nx\n", 2, "double")
        self.says("mark b\nmark a\nx", 1, "order")
        self.says("x\nmark b\nmark a\n", 0, "form")
        self.says("sheet s even\nend\nsheet s even\na 0\n", 2, "double")
        self.says("mark b\nmark b\nmark a\n", 1, "double")

    def test_marks_and_sheets_with_the_words_as_names(self):
        for name in ("end", "mark", "sheet", "even"):
            text = f"sheet {name} even\n{name} 0 0\nend\n"
            self.assertIsNone(self.check(text))
            self.assertIsNone(self.check(f"mark {name}\n"))
            self.says(f"sheet {name} even\n{name} 0 0\n{name} 1 1\n", 2, "double")
        self.assertIsNone(self.check(
            "sheet sheet even\nend 0 0\nmark 1 1\nsheet 2 2\nend\nsheet mark even\nend\n"
            "sheet end sized\nend\nmark even\n"))
        self.says("sheet s even\nend 0 0\n", 2, "missing")

    def test_cut_off_at_any_place(self):
        text = ("sheet s turned\na 1/2 -3\nend 0 10/3\nend\nsheet mark even\nmark 0 0\nend\n"
                "mark m\nmark sheet\n")
        self.assertIsNone(self.check(text))
        for at in range(len(text)):
            part = text[:at]
            feeds = part.count("\n")
            if not part.endswith("\n") and part != "":
                self.says(part, feeds, "form")
            elif feeds in (1, 2, 3, 5, 6):
                self.says(part, feeds, "missing")
            else:
                self.assertIsNone(self.check(part))

    def test_changed_texts(self):
        seen = {}
        for _ in range(3000):
            room = some_room(self.rng, self.rng.choice((0, 1, 2, 3, 8)), self.rng.choice((2, 5, 12)))
            lines = room_text(room).splitlines(keepends=True)
            for _ in range(self.rng.randint(1, 2)):
                change(self.rng, lines)
            why = self.check("".join(lines))
            seen[why] = seen.get(why, 0) + 1
        self.assertEqual(set(seen), {None, "form", "double", "many", "order", "missing"})
        self.assertGreater(min(seen.values()), 20)


def change(rng, lines):
    """Leaves a line out, doubles one, exchanges two, or puts other signs in."""
    way = rng.randrange(7)
    at = rng.randrange(len(lines) + 1)
    if way == 0:
        del lines[at:at + 1]
    elif way == 1:
        lines[at:at] = rng.sample(lines, min(1, len(lines)))
    elif way == 2:
        rng.shuffle(lines)
    elif way == 3:
        lines.insert(at, rng.choice(["end\n", "sheet x even\n", "x 0 0\n", "mark x\n", "mark aa\n"]))
    elif way == 4 and at < len(lines):
        signs = list(lines[at])
        signs[rng.randrange(len(signs))] = rng.choice("a0-/ \n")
        lines[at] = "".join(signs)
    elif way == 5:
        del lines[at:]
    else:
        lines.append("mark " + rng.choice(LETTERS) + "\n")


if __name__ == "__main__":
    unittest.main()
