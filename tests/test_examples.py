"""The examples of the document, and those of README.md."""

from pathlib import Path
import re
import unittest

from lostland.claims import read_saying
from lostland.errors import InvalidReading, NothingLeft
from lostland.exact import ONE, ZERO, fraction, fraction_text, plus, read_fraction
from lostland.hands import hand
from lostland.joints import joint
from lostland.judging import bond, judge
from lostland.maproom import MapRoom
from lostland.presses import crushed_paper
from lostland.sheets import Sheet
from lostland.spaces import Space
from lostland.texts import read_room
from lostland.where import where
from lostland.whole import pressed, stands
from tests.support import Case


class TestExamples(Case):
    def test_fractions(self):
        found = [fraction(6, -4), plus((1, 2), (1, 3)), fraction_text((-3, 2)), read_fraction("2/4")]
        self.same(found, [(-3, 2), (5, 6), "-3/2", None])

    def test_a_sheet_with_a_mark_that_stands_ahead(self):
        self.fails(InvalidReading, {"at": 1},
                   Sheet, "s", "turned", [("a", (ZERO, ONE)), ("a", (ZERO, ZERO))])

    def test_a_mark_that_two_turned_sheets_lead_over(self):
        room = read_room("sheet s turned\na 0 0\nb 1 0\nc 0 1\nend\n"
                         "sheet t turned\na 0 0\nb 0 2\nend\n")
        space = Space(room)
        self.same([space.rank, space.freedoms, where(space, ("mark", "c"), on="t"),
                   joint(space, "s", "t").word, hand(space, "t")],
                  [10, 4, ((-2, 1), (0, 1)), "one", "right"])

    def test_two_slanted_sheets_that_are_pressed(self):
        room = read_room("sheet s slanted\na 0 0\nb 1 0\nc 0 1\nd 1 1\nend\n"
                         "sheet t slanted\na 0 0\nb 1 0\nc 0 1\nd 1 2\nend\n")
        space = Space(room)
        self.same([stands(space), pressed(space), list(crushed_paper(space))[:4]],
                  [False, ["s", "t"], ["crushed", "s", "spot", (0, 1)]])

    def test_words_and_a_bond(self):
        room = read_room("sheet s slanted\na 0 0\nm 1 0\nb 2 0\nd 0 1\nend\n"
                         "sheet t slanted\na 0 0\nb 1 0\nc 0 1\nend\n")
        space = Space(room)
        texts = ["middle m a b", "same a b", "same c d", "line a b c", "not same a b; line m a b"]
        words = [judge(space, read_saying(room, text)) for text in texts]
        self.same([words, bond(space, read_saying(room, "line m a b")[0]),
                   where(space, ("mark", "m"), on="t"), joint(space, "s", "t").word],
                  [["surely", "never", "open", "unsure", "surely"], ("ratio", (1, 1)),
                   ((1, 2), (0, 1)), "hinge"])

    def test_a_map_room(self):
        desk = MapRoom()
        corner = Sheet("s", "slanted", [("a", (ZERO, ZERO)), ("b", (ONE, ZERO)), ("c", (ZERO, ONE))])
        desk.do(("sheet", corner), ("sheet", Sheet("t", "slanted")), ("read", "t", "a", (ZERO, ZERO)),
                ("mark", "m"))
        desk.do(("tell", "middle m a b"))
        self.same([desk("stands"), desk("freedoms"), desk("where m s"), desk("where m t"),
                   desk("joint s t"), desk("judge line m a b"), desk.history()],
                  ["yes", "10", "1/2 0", "open", "pin", "surely", (2, 0)])

    def test_a_map_room_without_steps(self):
        self.fails(NothingLeft, {}, MapRoom().undo)

    def test_joints_of_kinds(self):
        # The examples of [23].
        two = "sheet s {}\na 0 0\nb 1 0\nend\nsheet t {}\na 1 1\nb 2 3\nend\n"
        one = "sheet s {}\na 0 0\nend\nsheet t {}\na 1 1\nend\n"
        for text, kinds, word in [(two, ("slanted", "slanted"), "hinge"), (two, ("turned", "turned"), "one"),
                                  (two, ("turned", "slanted"), "hinge"), (one, ("sized", "sized"), "pin"),
                                  (one, ("even", "even"), "one")]:
            self.same(joint(Space(read_room(text.format(*kinds))), "s", "t").word, word)

    def test_readme(self):
        text = (Path(__file__).resolve().parent.parent / "README.md").read_text()
        blocks = re.findall(r"```python\n(.*?)```", text, re.DOTALL)
        self.assertTrue(blocks)
        # Later blocks go on with what the earlier ones import and name.
        names = {}
        for block in blocks:
            for line in block.splitlines():
                code, _, told = line.partition("  #")
                if told:
                    value = repr(eval(code, names))
                    self.assertTrue(told.strip().startswith(value), (line, value))
                else:
                    exec(code, names)


if __name__ == "__main__":
    unittest.main()
