"""The text of a map room, and the map room read back from it."""

import unittest

from lostland.claims import claim_text
from lostland.errors import InvalidText
from lostland.maproom import MapRoom
from lostland.maptexts import map_text, read_map
from lostland.sheets import Sheet
from lostland.texts import read_room, room_text
from tests import oracle
from tests.model import claim_of, points_in, weights_of
from tests.support import ANY_VALUES, ORIGIN, Case, spot
from tests.test_texts import judged, some_room

ROOM = "sheet s turned\na 0 0\nb 1/2 0\nend\nsheet told even\ntold 1 2\nend\nmark m\nmark x\n"


def is_plain_text(room, text):
    """Whether a text is that of a plain claim of a room."""
    claim = claim_of(text)
    if claim is None or claim[0] not in ("same", "middle", "mix") or sum(weights_of(claim)) != 1:
        return False
    return all(point[1] in (room.marks() if point[0] == "mark" else room.names()) for point in points_in(claim))


def judged_map(text):
    """What is to be said of a text: (line, word), or the text of the room and the told texts."""
    *lines, _ = text.split("\n")
    inside, start = False, len(lines)
    for at, line in enumerate(lines):
        if inside:
            inside = line != "end"
        elif line.startswith("told "):
            start = at
            break
        else:
            inside = line.startswith("sheet ")
    if start == len(lines):
        found = judged(text)
        return found if isinstance(found[1], str) else (text, [])
    head = "".join(line + "\n" for line in lines[:start])
    found = judged(head)
    if isinstance(found[1], str):
        return found
    told = []
    for at, line in enumerate(lines[start:], start):
        word, _, claim = line.partition(" ")
        if word != "told" or line == "told":
            return (at, "form")
        if not is_plain_text(read_room(head), claim):
            return (at, "claim")
        if len(told) == 8:
            return (at, "many")
        told.append(claim)
    return (len(lines), "form") if text[-1] != "\n" else (head, told)


class TextCase(Case):
    def check(self, text):
        """Checks what is read of a text against what is to be said of it."""
        expected = judged_map(text)
        if isinstance(expected[1], str):
            line, why = expected
            self.fails(InvalidText, {"line": line, "why": why}, read_map, text)
            return why
        desk = read_map(text)
        self.assertIs(type(desk), MapRoom)
        self.assertEqual(desk.held(), read_room(expected[0]))
        self.same([claim_text(claim) for claim in desk.told()], expected[1])
        self.same([desk.history(), desk.depth, desk.journal(), desk.log()], [(0, 0), 0, [], []])
        self.same(map_text(desk), text)
        return None

    def says(self, text, line, why):
        self.fails(InvalidText, {"line": line, "why": why}, read_map, text)
        self.assertEqual(judged_map(text), (line, why))


class TestMapTexts(TextCase):
    def test_written(self):
        desk = MapRoom()
        self.same(map_text(desk), "")
        self.assertEqual(read_map(""), desk)
        desk.do(("sheet", Sheet("s", "turned", [("b", spot("1/2", -3))])), ("mark", "z"), ("mark", "a"),
                ("tell", "mix a 1/3 b 2/3 s:1/2:0"), ("tell", "same z z"))
        text = "sheet s turned\nb 1/2 -3\nend\nmark a\nmark z\ntold mix a 1/3 b 2/3 s:1/2:0\ntold same z z\n"
        self.same(map_text(maproom=desk), text)
        self.assertEqual(read_map(text=text), desk)
        desk.begin()
        desk.drop()
        self.same(map_text(desk), text)
        self.same(map_text(read_map(text).twin()), text)

    def test_read(self):
        text = ROOM + "told same a told:1:2\ntold middle told a b\ntold same m x\n"
        self.assertIsNone(self.check(text))
        desk = read_map(text)
        self.same(desk.held().names(), ["s", "told"])
        self.same(desk.held().sheet("told").readings(), [("told", spot(1, 2))])
        # What was read is no step, and the desk goes on from there.
        desk.do(("untell", 2), ("unmark", "m"))
        self.same(desk.history(), (1, 0))
        desk.undo()
        self.assertEqual(desk, read_map(text))
        self.assertIsNone(self.check(ROOM + "told same a a\n" * 8))

    def test_told_lines(self):
        many = ROOM.count("\n")
        for text, why in [("told", "form"), ("told same a q", "claim"), ("told ", "claim"), ("told same a", "claim"),
                          ("told line a b m", "claim"), ("told not same a b", "claim"), ("told same a b ", "claim"),
                          ("told  same a b", "claim"), ("told mix a 1/3 b", "claim"), ("told told same a b", "claim"),
                          ("told same a u:0:0", "claim"), ("told same a s:2/4:0", "claim"), ("Told same a b", "form"),
                          (" told same a b", "form"), ("toldsame a b", "form"), ("told\tsame a b", "form"),
                          ("told 1 2", "claim"), ("told same a b; same b m", "claim"), ("", "form"), ("tell same a b", "form")]:
            self.says(ROOM + text + "\n", many, why)
            self.says(ROOM + text + "\nend\n", many, why)
            if text:
                self.says(ROOM + text, many, "form")
                self.says(ROOM + "told same a a\n" + text, many + 1, "form")
            self.says(ROOM + "told same a b\n" + text + "\n", many + 1, why)
            more = "told same a a\n" * 8
            self.says(ROOM + more + text + "\n", many + 8, why)
        self.says(ROOM + "told same a a\n" * 9, many + 8, "many")
        self.says(ROOM + "told same a a\n" * 8 + "told same a a", many + 8, "form")
        self.says(ROOM + "told same a a", many, "form")

    def test_lines_behind_told_ones(self):
        many = ROOM.count("\n") + 1
        for text in ("mark y", "mark m", "mark a", "sheet u even", "sheet s even", "end", "a 0 0", "", "told", "mark"):
            self.says(ROOM + f"told same a a\n{text}\n", many, "form")
            self.says(ROOM + f"told same a a\n{text}\ntold same a a\n", many, "form")

    def test_within_a_sheet(self):
        self.says("sheet s even\ntold same a a\nend\n", 1, "form")
        self.says("sheet s even\na 0 0\ntold same a a\nend\n", 2, "form")
        self.says("sheet s even\ntold ", 1, "form")
        self.says("sheet s even\na 0 0\ntold 1\n", 2, "form")
        self.says("sheet s even\ntold 1 2\n", 2, "missing")
        self.says("sheet s even\ntold 1 2\ntold 1 2\nend\n", 2, "double")
        self.assertIsNone(self.check("sheet s even\ntold 1 2\nend\ntold same told s:1:2\n"))
        self.says("told same a a\nmark a\n", 0, "claim")
        self.says("sheet s even\na 0 0\nend\ntold same s:0:0 a\nsheet t even\nend\n", 4, "form")

    def test_words_of_rooms(self):
        for text, line, why in [("mark a\nmark a\ntold same a a\n", 1, "double"), ("mark b\nmark a\ntold same a a\n", 1, "order"),
                                ("sheet s odd\nend\n", 0, "form"), ("sheet s even\n", 1, "missing"), ("\n", 0, "form"),
                                ("mark a", 0, "form"), ("x", 0, "form")]:
            self.says(text, line, why)
        nine = "".join(f"sheet {name} even\nend\n" for name in "abcdefghi")
        self.says(nine, 16, "many")
        self.says("".join(f"mark {name}\n" for name in "abcdefghijklm") + "told same a a\n", 12, "many")

    def test_values_that_are_no_strings(self):
        for value in ANY_VALUES:
            if not isinstance(value, str):
                self.fails(InvalidText, {"line": 0, "why": "form"}, read_map, value)

    def some_desk(self):
        room = some_room(self.rng, self.rng.randint(1, 3), self.rng.randint(1, 5))
        desk = read_map(room_text(room))
        for _ in range(self.rng.choice([0, 1, 2, 8])):
            desk.do(("tell", claim_text(oracle.some_plain(self.rng, room))))
        return desk

    def test_drawn_desks(self):
        for _ in range(60):
            desk = self.some_desk()
            text = map_text(desk)
            self.assertIsNone(self.check(text))
            self.assertEqual(read_map(text), desk)

    def test_changed_texts(self):
        found = {}
        for _ in range(600):
            text = map_text(self.some_desk())
            at = self.rng.randrange(len(text) + 1)
            lines = text.split("\n")
            way = self.rng.randrange(6)
            if way == 0:
                text = text[:at]
            elif way == 1:
                text = text[:at] + self.rng.choice(" \n:/;-0129az") + text[at + self.rng.randint(0, 1):]
            elif way == 2:
                text = text[:at] + text[at + 1:]
            elif way == 3:
                lines.insert(self.rng.randrange(len(lines)), self.rng.choice(lines))
                text = "\n".join(lines)
            elif way == 4:
                lines.insert(self.rng.randrange(len(lines)), self.rng.choice(
                    ["told same a a", "told", "mark a", "end", "told line a a a", "told mix a 1/2 a", "told same s:0:0 a"]))
                text = "\n".join(lines)
            else:
                del lines[self.rng.randrange(len(lines))]
                text = "\n".join(lines)
            why = self.check(text)
            found[why] = found.get(why, 0) + 1
        for why in (None, "form", "claim", "missing", "double", "many"):
            self.assertGreater(found.get(why, 0), 3, found)


class TestCutTexts(TextCase):
    def test_cut_anywhere(self):
        text = ROOM + "told same a told:1:2\ntold mix told 1/2 a 1/2 b\n"
        for at in range(len(text) + 1):
            self.check(text[:at])
            self.check(text[at:])
        self.assertEqual(read_map(ROOM).held().sheet("s").spot("a"), ORIGIN)


if __name__ == "__main__":
    unittest.main()
