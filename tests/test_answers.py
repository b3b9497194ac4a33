"""The lines that a map room answers, and its log."""

import unittest

from lostland.claims import claim_text
from lostland.hands import hand
from lostland.joints import blocks, joint
from lostland.judging import judge
from lostland.maproom import MapRoom
from lostland.maptexts import read_map
from lostland.points import point_text
from lostland.sheets import Sheet
from lostland.spare import spare
from lostland.texts import room_text
from lostland.where import where
from lostland.whole import pressed, stands
from lostland.wrong import suspects
from tests import oracle
from tests.support import NOT_NAMES, ORIGIN, frac, some_spot, spot
from tests.test_spare import MANY
from tests.test_where import EXAMPLE, HINGE
from tests.test_whole import LANDWARD, SLANTED_TWO, WholeCase

SINGLE = ["stands", "freedoms", "sheets", "marks", "blocks", "spare", "suspects", "told", "undo", "redo",
          "begin", "keep", "drop"]


def desk_of(room, *told):
    return read_map(room_text(room) + "".join(f"told {text}\n" for text in told))


def texts_of(place):
    return " ".join(str(frac(part)) for part in place)


class AnswerCase(WholeCase):
    def says(self, desk, expected):
        """The answers, by say and by the call, and the log of both."""
        for line, answer in expected.items():
            log = desk.log()
            twin = desk.twin()
            self.same((line, twin.say(line)), (line, answer))
            self.same((line, desk(line)), (line, answer))
            self.same(desk.log(), log + [(line, answer)])
            self.same(twin.log(), desk.log())
            self.assertIs(desk.busy, False)


class TestAnswers(AnswerCase):
    def test_in_a_room_that_stands(self):
        self.says(desk_of(HINGE, "middle a a a", "mix b 1/3 b 2/3 b"), {
            "stands": "yes", "freedoms": "8", "sheets": "s t", "marks": "a b c d m", "blocks": "s; t", "spare": "none",
            "suspects": "error Stands", "told": "middle a a a; mix b 1/3 b 2/3 b", "where m t": "1/2 0",
            "where m s": "1 0", "where d t": "open", "where s:6:0 t": "3 0", "where s:-6:0 t": "-3 0",
            "where t:1/3:-2/7 t": "1/3 -2/7", "where s:0:1 t": "open", "judge same a b": "never",
            "judge same c d": "open", "judge line a b c": "unsure", "judge middle m a b": "surely",
            "judge not same a b; line m a b": "surely", "judge same c d; not same d t:0:1": "never",
            "joint s t": "hinge", "joint t s": "hinge", "joint s s": "one", "hand s": "either", "hand t": "either"})
        self.says(desk_of(EXAMPLE), {
            "joint s t": "one", "hand t": "right", "blocks": "s t", "freedoms": "4", "told": "none", "spare": "none",
            "where c t": "-2 0", "judge side a b t:0:0 t:0:1": "surely"})
        self.says(desk_of(MANY), {
            "spare": "s a; s b; s c; t a; t b; t c; u c; u b; u a", "blocks": "s t u", "marks": "a b c x",
            "where x s": "open", "where s:1:1 u": "1 0"})
        mirrored = HINGE.with_sheet(Sheet("z", "mirrored")).with_sheet(Sheet("y", "even"))
        self.says(desk_of(mirrored), {"hand z": "left", "hand y": "right", "joint y z": "none", "sheets": "s t z y",
                                      "blocks": "s; t; z; y"})
        pin = HINGE.with_sheet(Sheet("z", "turned", [("c", spot(1, 1))]))
        self.says(desk_of(pin), {"joint z t": "pin"})

    def test_in_a_room_that_does_not_stand(self):
        self.says(desk_of(SLANTED_TWO), {
            "stands": "no", "freedoms": "4", "sheets": "s t", "marks": "a b c d", "spare": "none",
            "suspects": "s a; s b; s c; s d; t a; t b; t c; t d", "blocks": "error NoLand", "where a s": "error NoLand",
            "where e s": "error InvalidPoint", "where a u": "error UnknownSheet", "judge same a a": "error NoLand",
            "judge same a e": "error InvalidClaim", "joint s t": "error NoLand", "joint s u": "error UnknownSheet",
            "hand s": "error NoLand", "hand u": "error UnknownSheet", "told": "none"})
        flat = desk_of(LANDWARD, "same p:0:0 p:1:0")
        self.says(flat, {"stands": "no", "suspects": "none", "told": "same p:0:0 p:1:0"})

    def test_in_the_empty_room(self):
        self.says(MapRoom(), {
            "stands": "yes", "freedoms": "0", "sheets": "none", "marks": "none", "blocks": "none", "spare": "none",
            "suspects": "error Stands", "told": "none", "where a s": "error InvalidPoint", "hand s": "error UnknownSheet",
            "joint s t": "error UnknownSheet", "judge same a a": "error InvalidClaim"})

    def test_words_that_are_no_texts(self):
        desk = desk_of(HINGE)
        for word in ("x", "A", "s:0", "s:0:0:0", "u:0:0", "s:2/4:0", "s:01:0", "s:-0:0", "1", ":", "s::", "mark", "?"):
            self.says(desk, {f"where {word} s": "error InvalidPoint", f"where {word} u": "error InvalidPoint"})
        for word in ("u", "a", "S", "1", "s:0:0", "none"):
            self.says(desk, {f"where a {word}": "error UnknownSheet", f"hand {word}": "error UnknownSheet",
                             f"joint {word} s": "error UnknownSheet", f"joint s {word}": "error UnknownSheet"})
        for text in ("same", "same a", "same a b c", "same a x", "a", ";", "same a b;", "same a b; ;", "judge same a b",
                     "line a b", "not line a b c", "mix a 1/2 b", "same a b;same b c", "same a u:0:0", "x y z",
                     "same a a; same a a; same a a; same a a; same a a"):
            self.says(desk, {f"judge {text}": "error InvalidClaim"})
        self.says(desk, {"judge same a a; same a a; same a a; same a a": "surely"})

    def test_unknown_lines(self):
        desk = desk_of(HINGE)
        before = (desk.history(), desk.depth, desk.held())
        lines = ["", " ", "judge", "judge ", "where", "where a", "where a s t", "hand", "hand s t", "joint", "joint s",
                 "joint s t u", "Stands", "stand", "none", "?", "told same a b", "mark x", "do", "unknown", "say stands",
                 "journal", "history", "twin", "log", "error", "busy", "depth", "where: a s", "listing", "pressed"]
        lines += [word + more for word in SINGLE for more in (" ", "\n", " x", " s a", "  ", "s")]
        lines += [" " + line for line in SINGLE + ["where a s", "hand s", "judge same a b"]]
        lines += ["where  a s", "where a  s", "where a s ", "hand  s", "hand s ", "joint s t ", "joint  s t", "where a s\n",
                  "where a\n s", "\nwhere a s", "hand\ns", "hand s\n", "judge same a b\n", "judge same a\nb", "judge\n",
                  "judge same a b\nsame b c", "judge  same a b", "judge same  a b", "judge same a b ", "judge same a b;  same b c",
                  "judge \n", "stands\nstands", "\n", "where a s\nstands"]
        for line in lines:
            self.says(desk, {line: "unknown"})
        self.assertEqual((desk.history(), desk.depth, desk.held()), before)
        self.same(len(desk.log()), len(lines))
        self.assertIn("say", dir(desk))

    def test_history_and_drafts(self):
        desk = MapRoom()
        self.says(desk, {"undo": "error NothingLeft", "redo": "error NothingLeft", "keep": "error NoDraft",
                         "drop": "error NoDraft"})
        desk.do(("mark", "a"))
        desk.do(("sheet", Sheet("s", "even", [("b", ORIGIN)])))
        for line, answer in [("marks", "a b"), ("undo", "done"), ("marks", "a"), ("redo", "done"), ("sheets", "s"),
                             ("begin", "done"), ("undo", "error NothingLeft"), ("begin", "done"), ("begin", "done"),
                             ("begin", "done"), ("begin", "error TooMany"), ("drop", "done"), ("keep", "done"),
                             ("drop", "done"), ("drop", "done"), ("drop", "error NoDraft"), ("undo", "done"),
                             ("undo", "done"), ("undo", "error NothingLeft"), ("marks", "none")]:
            self.same((line, desk(line)), (line, answer))
        self.same(len(desk.log()), 24)
        for line, marks in (("keep", "a"), ("drop", "none")):
            self.same(desk("begin"), "done")
            desk.do(("mark", "a"))
            self.same([desk(line), desk("marks")], ["done", marks])
            if marks == "a":
                desk.do(("unmark", "a"))
        desk.undo()
        desk.undo()
        self.same([desk.history(), desk.depth], [(0, 2), 0])
        self.same(desk.journal(), [])
        self.same(desk.log()[4], ("marks", "a b"))

    def test_arguments_by_name(self):
        desk = desk_of(HINGE)
        self.same(desk.say(line="stands"), "yes")
        self.same(desk(line="hand s"), "either")
        for value in NOT_NAMES:
            if isinstance(value, str) and value and " " not in value and "\n" not in value:
                self.same(desk(f"hand {value}"), "error UnknownSheet")

    def test_drawn_rooms(self):
        for _ in range(40):
            room, told = self.drawn()
            desk = desk_of(room, *[claim_text(claim) for claim in told])
            space = desk.space()
            self.assertEqual(space.room, room)
            good = stands(space)
            expected = {"stands": "yes" if good else "no", "freedoms": str(space.freedoms),
                        "sheets": " ".join(room.names()), "marks": " ".join(room.marks()) or "none",
                        "told": "; ".join(map(claim_text, told)) or "none",
                        "spare": "; ".join(map(" ".join, spare(space))) or "none"}
            if good:
                expected["blocks"] = "; ".join(map(" ".join, blocks(space)))
                expected["suspects"] = "error Stands"
            else:
                self.assertNotEqual(pressed(space), [])
                expected["blocks"] = "error NoLand"
                expected["suspects"] = "; ".join(map(" ".join, suspects(space))) or "none"
            for _ in range(4):
                point, name = oracle.some_point(self.rng, room), self.rng.choice(room.names())
                other, claim = self.rng.choice(room.names()), oracle.some_claim(self.rng, room)
                lines = [f"where {point_text(point)} {name}", f"hand {name}", f"joint {name} {other}",
                         f"judge {claim_text(claim)}"]
                answers = ["error NoLand"] * 4
                if good:
                    known = where(space, point, on=name)
                    answers = ["open" if known is None else texts_of(known), hand(space, name),
                               joint(space, name, other).word, judge(space, [claim])]
                expected.update(zip(lines, answers))
            self.says(desk, expected)

    def test_long_numbers(self):
        huge = 10 ** 2000 + 7
        desk = MapRoom()
        desk.do(("sheet", Sheet("s", "even", [("a", some_spot(self.rng)), ("b", ((huge, huge + 1), (-huge, 1)))])))
        digits = "1" + "0" * 1999 + "7"
        self.says(desk, {"where b s": f"{digits}/{digits[:-1]}8 -{digits}"})


if __name__ == "__main__":
    unittest.main()
