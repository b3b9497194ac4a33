"""Map rooms: deeds, history, drafts and journals, against a plain model."""

import unittest

from lostland import errors
from lostland.claims import claim_text
from lostland.maproom import MapRoom
from lostland.rooms import Room
from lostland.sheets import Sheet
from lostland.spaces import Space
from lostland.whole import pressed
from tests.model import ITEMS, Model, Refused
from tests.support import (
    ANY_VALUES, KINDS, NAMES, NOT_KINDS, NOT_NAMES, NOT_SPOTS, ORIGIN, SPOTS, Case, nested, spot)

CORNER = Sheet("s", "slanted", [("a", ORIGIN), ("b", spot(1, 0)), ("c", spot(0, 1))])
OTHER = Sheet("t", "turned", [("a", spot(1, 1)), ("d", spot(2, 2))])
# A map room of two sheets with two told claims, one of them with a point on t.
BEGIN = [("sheet", CORNER), ("sheet", OTHER), ("mark", "m"), ("tell", "middle m a b"), ("tell", "same c t:1/2:0")]
NOT_DEEDS = [value for value in ANY_VALUES if value != ("mark", "a")] + [
    (), ("sheet",), ("sheet", CORNER, 1), ("off",), ("off", "s", "t"), ("read", "s", "a"),
    ("read", "s", "a", ORIGIN, 1), ("strike", "s"), ("strike", "s", "a", "b"), ("kind", "s"), ("mark",),
    ("mark", "a", "b"), ("unmark",), ("tell",), ("tell", "same a b", 1), ("untell",), ("untell", 0, 1), ("Mark", "a"),
    ("undo",), ("marks", "a"), ("told", "same a b"), ["mark", "a"], (("mark",), "a"), (None, "a"), (["mark"], "a"),
    ("", "a"), ("mark ", "a"), "mark", ("keep",), ("say", "stands")]


def begun():
    desk = MapRoom()
    desk.do(*BEGIN)
    return desk


class DeskCase(Case):
    def state(self, desk):
        """All that a map room tells of itself, but for its log."""
        return (desk.held(), desk.told(), desk.history(), desk.depth, desk.journal(), desk.busy, len(desk), repr(desk))

    def agrees(self, desk, model):
        now = model.now
        self.assertEqual(desk.held(), now.room())
        self.same(desk.told(), now.told)
        self.same(desk.history(), model.history())
        self.same(desk.depth, len(model.stack) - 1)
        self.assertEqual(desk.journal(), model.journal())
        self.assertIs(desk.busy, False)
        self.same(len(desk), len(now.sheets))
        self.same(repr(desk), f"MapRoom({len(now.sheets)} sheets, {len(now.told)} told)")
        self.assertIs(bool(desk), True)
        found = desk.space()
        self.assertIs(type(found), Space)
        self.assertEqual(found.room, now.room())
        self.same(found.told(), now.told)

    def both(self, desk, model, word, *parts):
        """Does the same in the map room and in the model; both must refuse it alike."""
        try:
            result = getattr(model, word)(*parts)
        except Refused as refused:
            before = self.state(desk)
            self.fails(getattr(errors, refused.code), refused.told, getattr(desk, word), *parts)
            self.assertEqual(self.state(desk), before)
            return refused.code
        self.assertEqual(getattr(desk, word)(*parts), result)
        self.agrees(desk, model)
        return "done"

    def refuses(self, desk, error, told, *deeds):
        """The deeds are refused, and nothing changes."""
        before, log = self.state(desk), desk.log()
        self.fails(error, told, desk.do, *deeds)
        self.fails(error, told, desk.tried, *deeds)
        self.assertEqual(self.state(desk), before)
        self.assertEqual(desk.log(), log)
        self.assertIs(desk.busy, False)


class TestDeeds(DeskCase):
    def test_a_new_map_room(self):
        desk = MapRoom()
        self.assertEqual(desk.held(), Room())
        self.same([desk.told(), desk.history(), desk.depth, desk.journal(), desk.log()], [[], (0, 0), 0, [], []])
        self.assertIs(desk.busy, False)
        self.same([len(desk), repr(desk), bool(desk)], [0, "MapRoom(0 sheets, 0 told)", True])
        self.assertIsNone(desk.do())
        self.same(desk.history(), (0, 0))
        self.agrees(desk, Model())

    def test_each_deed(self):
        desk, model = MapRoom(), Model()
        deeds = BEGIN + [
            ("read", "t", "e", spot(9, "1/3")), ("read", "t", "a", spot(7, 7)), ("sheet", CORNER.of_kind("sized")),
            ("sheet", Sheet("s", "even", [("z", ORIGIN)])), ("kind", "t", "mirrored"), ("kind", "t", "mirrored"),
            ("strike", "t", "a"), ("mark", "m"), ("mark", "q"), ("unmark", "q"), ("untell", 1), ("off", "t"),
            ("unmark", "d"), ("tell", "mix a 1/3 b 2/3 s:1/2:0"), ("tell", "same a a"), ("untell", 0)]
        for deed in deeds:
            self.same(self.both(desk, model, "do", deed), "done")
        self.same(desk.history(), (len(deeds), 0))
        self.same([claim_text(claim) for claim in desk.told()], ["mix a 1/3 b 2/3 s:1/2:0", "same a a"])
        self.same(desk.held().names(), ["s"])
        self.same(desk.held().marks(), ["a", "b", "c", "e", "m", "z"])

    def test_values_that_are_no_deeds(self):
        desk = begun()
        good = ("mark", "x")
        for value in NOT_DEEDS:
            self.refuses(desk, errors.InvalidDeed, {"at": 0}, value)
            self.refuses(desk, errors.InvalidDeed, {"at": 2}, good, ("mark", "y"), value, good)
            # It is checked ahead of everything else.
            self.refuses(desk, errors.InvalidDeed, {"at": 1}, ("off", "nobody"), value, None)
        self.refuses(desk, errors.InvalidDeed, {"at": 3}, good, ("mark", None), ("off", None), nested(5))
        for word, many in ITEMS.items():
            for other in range(1, 7):
                if other != many:
                    self.refuses(desk, errors.InvalidDeed, {"at": 0}, (word,) + ("a",) * (other - 1))

    def test_sheets(self):
        desk = begun()
        for value in ANY_VALUES + NOT_NAMES:
            if not isinstance(value, Sheet):
                self.refuses(desk, errors.InvalidSheet, {"at": -1}, ("sheet", value))
        full = [("sheet", Sheet(name, "sized", [(mark, ORIGIN) for mark in "abcdefgh"])) for name in "stuvwxyz"]
        desk.do(*full)
        self.same(len(desk), 8)
        self.refuses(desk, errors.TooMany, {"most": 8}, ("sheet", Sheet("r", "even")))
        many = [(mark * 2, ORIGIN) for mark in "abcdefghijkl"]
        self.refuses(desk, errors.TooMany, {"most": 8}, ("sheet", Sheet("r", "even", many)))
        self.refuses(desk, errors.TooMany, {"most": 12}, ("sheet", Sheet("s", "even", many)))
        desk.do(("sheet", Sheet("s", "even", many[:3])))
        self.same(desk.held().names(), list("stuvwxyz"))
        self.same(len(desk.held().marks()), 12)
        self.refuses(desk, errors.TooMany, {"most": 12}, ("sheet", Sheet("t", "even", many[:4])))

    def test_off(self):
        desk = begun()
        for value in ANY_VALUES + NOT_NAMES + ["u", "a", ("s",)]:
            self.refuses(desk, errors.UnknownSheet, {"name": value}, ("off", value))
        self.refuses(desk, errors.InUse, {"name": "t"}, ("off", "t"))
        self.refuses(desk, errors.InUse, {"name": "t"}, ("off", "s"), ("off", "t"))
        desk.do(("off", "s"))
        self.same([desk.held().names(), desk.held().loose()], [["t"], ["b", "c", "m"]])
        desk.do(("untell", 1), ("off", "t"))
        self.same([len(desk), desk.held().marks()], [0, ["a", "b", "c", "d", "m"]])
        # Points within a mix, and on the other side of a claim.
        for text in ("mix a 1 s:0:0", "mix s:0:0 1 a", "mix a 1/2 b 1/2 s:0:0", "middle a b s:0:0", "same s:0:0 s:1:1"):
            desk = MapRoom()
            desk.do(("sheet", CORNER), ("tell", text))
            self.refuses(desk, errors.InUse, {"name": "s"}, ("off", "s"))

    def test_readings(self):
        desk = begun()
        for value in ANY_VALUES + NOT_NAMES + ["u", "a", ("s",)]:
            self.refuses(desk, errors.UnknownSheet, {"name": value}, ("read", value, None, None))
            self.refuses(desk, errors.UnknownSheet, {"name": value}, ("strike", value, None))
            self.refuses(desk, errors.UnknownSheet, {"name": value}, ("kind", value, None))
        for value in NOT_NAMES:
            self.refuses(desk, errors.InvalidName, {"value": value}, ("read", "s", value, None))
        for value in NOT_SPOTS:
            self.refuses(desk, errors.InvalidSpot, {"value": value}, ("read", "s", "a", value))
        for value in ANY_VALUES + NOT_NAMES + ["d", "m", "x", ("a",)]:
            told = {"name": "s", "mark": value}
            self.refuses(desk, errors.UnknownReading, told, ("strike", "s", value))
        for value in NOT_KINDS:
            self.refuses(desk, errors.InvalidKind, {"value": value}, ("kind", "s", value))
        for kind in KINDS:
            desk.do(("kind", "t", kind))
            self.assertEqual(desk.held().sheet("t"), OTHER.of_kind(kind))
        for place in SPOTS:
            desk.do(("read", "s", "b", place))
            self.same(desk.held().sheet("s").marks(), ["a", "b", "c"])
            self.same(desk.held().sheet("s").spot("b"), place)
        desk.do(("strike", "s", "b"))
        self.same([desk.held().loose(), desk.held().sheet("s").marks()], [["b", "m"], ["a", "c"]])
        desk.do(*[("mark", name) for name in ("u", "v", "w", "x", "y", "z", "mark")])
        self.same(len(desk.held().marks()), 12)
        self.refuses(desk, errors.TooMany, {"most": 12}, ("read", "s", "q", ORIGIN))
        self.refuses(desk, errors.InvalidSpot, {"value": None}, ("read", "s", "q", None))
        self.refuses(desk, errors.TooMany, {"most": 12}, ("mark", "q"))
        desk.do(("mark", "u"), ("read", "s", "u", ORIGIN))
        self.same(desk.held().sheet("s").marks(), ["a", "c", "u"])

    def test_marks(self):
        desk = begun()
        for value in NOT_NAMES:
            self.refuses(desk, errors.InvalidName, {"value": value}, ("mark", value))
        for value in ANY_VALUES + NOT_NAMES + ["s", "x", ("a",), ("mark", "a")]:
            self.refuses(desk, errors.UnknownMark, {"name": value}, ("unmark", value))
        # Read by a sheet, held by a told claim, and by both.
        for name in ("d", "m", "a"):
            self.refuses(desk, errors.InUse, {"name": name}, ("unmark", name))
        desk.do(("strike", "t", "d"), ("unmark", "d"), ("untell", 0), ("unmark", "m"))
        self.same(desk.held().marks(), ["a", "b", "c"])
        for text in ("mix x 1 x", "mix s:0:0 1 s:1:1 -1 s:2:2 1 x", "same s:0:0 x", "middle a b x"):
            desk = MapRoom()
            desk.do(("sheet", CORNER), ("mark", "x"), ("tell", text))
            self.refuses(desk, errors.InUse, {"name": "x"}, ("unmark", "x"))
        for name in NAMES:
            desk = MapRoom()
            desk.do(("mark", name), ("mark", name), ("unmark", name))
            self.assertEqual(desk.held(), Room())

    def test_told_claims(self):
        desk = begun()
        for value in ANY_VALUES + ["", "same a", "same a b c", "same a b ", "same  a b", "Same a b", "same a b; same b c",
                                   "mix a", "mix a 1/3", "mix a 2/4 b 1/2 c", "not same a b c", "not not same a b"]:
            self.refuses(desk, errors.InvalidClaim, {"at": 0, "why": "form"}, ("tell", value))
        for text, why in [("same a x", "point"), ("same a u:0:0", "point"), ("mix a 1/3 b", "weights"),
                          ("mix a 1/3 b 1/3 c", "weights"), ("mix x 1/3 b", "point"), ("mix x 1/3 b 1/3 c", "point"),
                          ("line a b c", "form"), ("line a b x", "point"), ("side a b c d", "form"),
                          ("not same a b", "form"), ("not same a x", "point"), ("not mix a 1/2 b", "weights"),
                          ("not mix a 1/2 b 1/3 c", "weights")]:
            self.refuses(desk, errors.InvalidClaim, {"at": 0, "why": why}, ("tell", text))
        for value in ANY_VALUES + ["0", 2, -1, -2, True, False, (0,), 10 ** 199]:
            if value not in (0, 1) or isinstance(value, bool):
                self.refuses(desk, errors.UnknownClaim, {"at": value}, ("untell", value))
        desk.do(*[("tell", "same a a")] * 6)
        self.same(len(desk.told()), 8)
        self.refuses(desk, errors.TooMany, {"most": 8}, ("tell", "same a a"))
        self.refuses(desk, errors.InvalidClaim, {"at": 0, "why": "form"}, ("tell", "line a b c"))
        self.refuses(desk, errors.InvalidClaim, {"at": 0, "why": "point"}, ("tell", "same a x"))
        desk.do(("untell", 7), ("untell", 0), ("tell", "same b b"))
        self.same([claim_text(claim) for claim in desk.told()], ["same c t:1/2:0"] + ["same a a"] * 5 + ["same b b"])

    def test_all_deeds_of_a_call_are_done_or_none(self):
        desk = begun()
        self.refuses(desk, errors.UnknownSheet, {"name": "u"}, ("mark", "x"), ("off", "s"), ("off", "u"), ("mark", None))
        self.refuses(desk, errors.UnknownSheet, {"name": "s"}, ("off", "s"), ("read", "s", "a", ORIGIN))
        self.refuses(desk, errors.TooMany, {"most": 12}, *[("mark", name * 2) for name in "abcdefgh"])
        # Deeds of one call see those ahead of them.
        desk.do(("mark", "x"), ("tell", "same x a"), ("untell", 0), ("sheet", Sheet("u", "even")), ("read", "u", "x", ORIGIN),
                ("strike", "u", "x"), ("off", "u"))
        self.same(desk.history(), (2, 0))
        self.same([claim_text(claim) for claim in desk.told()], ["same c t:1/2:0", "same x a"])

    def test_tried(self):
        desk = begun()
        before = self.state(desk)
        found = desk.tried(("untell", 1), ("strike", "s", "b"))
        self.assertIs(type(found), Space)
        self.assertEqual(found.room, desk.held().without("s", "b"))
        self.same(found.told(), desk.told()[:1])
        self.assertEqual(desk.tried().room, desk.held())
        self.same(desk.tried().told(), desk.told())
        self.assertEqual(self.state(desk), before)
        desk.undo()
        desk.tried(("mark", "x"))
        self.same(desk.history(), (0, 1))
        self.same(pressed(begun().tried(("tell", "same a b"))), ["s"])


class TestHistory(DeskCase):
    def test_undo_and_redo(self):
        desk, model = MapRoom(), Model()
        self.same(self.both(desk, model, "undo"), "NothingLeft")
        self.same(self.both(desk, model, "redo"), "NothingLeft")
        self.both(desk, model, "do", *BEGIN[:3])
        self.both(desk, model, "do", *BEGIN[3:])
        self.both(desk, model, "do")
        self.both(desk, model, "do", ("mark", "m"))
        self.same(desk.history(), (3, 0))
        for word in ("undo", "undo", "redo", "undo", "undo", "undo", "redo", "redo", "redo", "redo"):
            self.both(desk, model, word)
        self.same(desk.history(), (3, 0))
        self.both(desk, model, "undo")
        # Without deeds, refused and only tried: what was taken back can still be done again.
        self.both(desk, model, "do")
        self.both(desk, model, "do", ("mark", None))
        self.both(desk, model, "do", None)
        desk.tried(("mark", "x"))
        self.same(desk.history(), (2, 1))
        self.both(desk, model, "do", ("mark", "x"))
        self.same(desk.history(), (3, 0))
        self.same(self.both(desk, model, "redo"), "NothingLeft")

    def test_drafts(self):
        desk, model = begun(), Model()
        model.do(*BEGIN)
        for word in ("keep", "drop"):
            self.same(self.both(desk, model, word), "NoDraft")
        self.both(desk, model, "do", ("mark", "x"))
        self.both(desk, model, "undo")
        self.both(desk, model, "begin")
        self.same([desk.history(), desk.depth], [(0, 0), 1])
        self.same(self.both(desk, model, "undo"), "NothingLeft")
        self.same(self.both(desk, model, "redo"), "NothingLeft")
        self.both(desk, model, "do", ("mark", "y"))
        self.both(desk, model, "drop")
        self.same([desk.history(), desk.depth], [(1, 1), 0])
        # Kept without a step: as if it was dropped.
        self.both(desk, model, "begin")
        self.both(desk, model, "do", ("mark", "y"))
        self.both(desk, model, "undo")
        self.both(desk, model, "keep")
        self.same([desk.history(), desk.depth], [(1, 1), 0])
        self.both(desk, model, "begin")
        self.both(desk, model, "do", ("mark", "y"), ("mark", "z"))
        self.both(desk, model, "do", ("unmark", "y"))
        self.both(desk, model, "do", ("mark", "q"))
        self.both(desk, model, "undo")
        self.both(desk, model, "keep")
        self.same([desk.history(), desk.depth, desk.journal()[-3:]],
                  [(2, 0), 0, [("mark", "y"), ("mark", "z"), ("unmark", "y")]])
        self.both(desk, model, "undo")
        self.assertNotIn("z", desk.held().marks())
        self.both(desk, model, "redo")
        self.assertIn("z", desk.held().marks())

    def test_drafts_one_in_another(self):
        desk, model = begun(), Model()
        model.do(*BEGIN)
        for at, name in enumerate(["u", "v", "w", "x"]):
            self.both(desk, model, "do", ("mark", name))
            self.both(desk, model, "begin")
            self.same(desk.depth, at + 1)
        self.same(self.both(desk, model, "begin"), "TooMany")
        self.both(desk, model, "do", ("mark", "y"))
        self.both(desk, model, "keep")
        self.same([desk.history(), desk.depth], [(2, 0), 3])
        self.both(desk, model, "undo")
        self.both(desk, model, "keep")
        self.both(desk, model, "drop")
        self.same([desk.history(), desk.depth, desk.held().loose()], [(1, 0), 1, ["m", "u", "v"]])
        self.both(desk, model, "keep")
        self.same(desk.depth, 0)

    def test_drawn_runs(self):
        """Drawn calls in the map room and in the model."""
        found = {}
        for _ in range(80):
            desk, model = MapRoom(), Model()
            for _ in range(60):
                word = self.rng.choice(["do"] * 9 + ["undo", "undo", "redo", "redo", "begin", "keep", "drop"])
                deeds = []
                if word == "do":
                    deeds = [self.some_deed(model) for _ in range(self.rng.choice([0, 1, 1, 1, 2, 3]))]
                code = self.both(desk, model, word, *deeds)
                found[code] = found.get(code, 0) + 1
            self.check_journal(desk)
        for code in ("done", "UnknownSheet", "InUse", "InvalidClaim", "NothingLeft", "TooMany", "NoDraft", "InvalidName",
                     "InvalidSpot", "UnknownReading", "UnknownMark", "UnknownClaim", "InvalidDeed", "InvalidKind",
                     "InvalidSheet"):
            self.assertGreater(found.get(code, 0), 1, found)

    def check_journal(self, desk):
        """Done again in a new map room, one by one or all at once."""
        again, once = MapRoom(), MapRoom()
        for deed in desk.journal():
            again.do(deed)
        once.do(*desk.journal())
        self.assertEqual(again, desk)
        self.assertEqual(once, desk)

    def some_deed(self, model):
        rng, now = self.rng, model.now
        word = rng.choice(list(ITEMS) + ["read", "tell", "sheet", "mark"])
        name = rng.choice(list(now.sheets) * 3 + ["s", "t", "u", "nobody"])
        mark = rng.choice(sorted(now.marks) * 2 + list("abcdefghijklmn"))
        if rng.random() < 0.03:
            return rng.choice(NOT_DEEDS)
        if rng.random() < 0.05:
            name, mark = rng.choice([(name, None), (None, mark), (name, "A")])
        place = rng.choice(SPOTS[:4] + [spot(1, 1)] * 4 + [None])
        point = f"{name}:1/2:-3" if rng.random() < 0.4 else mark
        parts = {
            "sheet": [rng.choice([Sheet(letter, kind, [(m, ORIGIN) for m in rng.sample("abcdefghijklmn", many)])
                                  for letter in "stuvwxyzo" for kind, many in (("even", 2), ("turned", 4))] + [None])],
            "off": [name], "read": [name, mark, place], "strike": [name, mark],
            "kind": [name, rng.choice(KINDS + ["odd"])], "mark": [mark], "unmark": [mark],
            "tell": [rng.choice([f"same {mark} {point}", f"middle {mark} {point} {mark}", f"line {mark} {mark} {point}",
                                 f"mix {point} 1/2 {mark} 1/2 {point}", f"mix {mark} 1/2 {point}", "same", None])],
            "untell": [rng.choice([0, 1, 7, -1, True])]}
        return (word, *parts[word])

    def test_twins(self):
        desk = begun()
        desk.do(("mark", "x"))
        desk.undo()
        desk.begin()
        desk.do(("mark", "y"))
        desk("stands")
        twin = desk.twin()
        self.assertEqual(self.state(twin), self.state(desk))
        self.assertEqual(twin, desk)
        self.same(twin.log(), desk.log())
        before = self.state(desk)
        twin.do(("mark", "z"))
        twin.undo()
        twin.undo()
        twin("marks")
        twin.keep()
        twin.redo()
        twin.undo()
        twin.undo()
        self.same(twin.held(), Room())
        self.assertEqual(self.state(desk), before)
        self.same(desk.log(), [("stands", "yes")])
        self.same(twin.log()[1][0], "marks")
        other = desk.twin()
        desk.drop()
        desk.do(("mark", "w"))
        self.assertEqual(self.state(other), before)
        other.drop()
        self.same(other.history(), (1, 1))

    def test_drop_keeps_the_log(self):
        desk = begun()
        desk.begin()
        self.same(desk("sheets"), "s t")
        desk.do(("off", "s"))
        self.same(desk.say("sheets"), "t")
        desk.drop()
        self.same(desk.log(), [("sheets", "s t"), ("sheets", "t")])

    def test_equality(self):
        desk = begun()
        other = MapRoom()
        for deed in BEGIN:
            other.do(deed)
        self.assertEqual(desk, other)
        other.begin()
        other("stands")
        self.assertEqual(desk, other)
        other.do(("tell", "same a a"))
        self.assertNotEqual(desk, other)
        other.undo()
        other.do(("mark", "x"))
        self.assertNotEqual(desk, other)
        swapped = MapRoom()
        swapped.do(*BEGIN[:3], BEGIN[4], BEGIN[3])
        self.assertNotEqual(desk, swapped)
        sheets = MapRoom()
        sheets.do(BEGIN[1], BEGIN[0], *BEGIN[2:])
        self.assertNotEqual(desk, sheets)
        for value in ANY_VALUES + [desk.held(), desk.space()]:
            self.assertIs(desk == value, False)
            self.assertIs(desk != value, True)

    def test_returned_lists_are_new(self):
        desk = begun()
        desk("stands")
        before = self.state(desk)
        for found in (desk.told(), desk.journal(), desk.log()):
            found.clear()
            found.append(None)
        self.assertEqual(self.state(desk), before)
        self.same(desk.log(), [("stands", "yes")])
        self.assertIsNone(desk.do(("mark", "x")))
        self.assertIsNone(desk.undo())
        self.assertIsNone(desk.redo())
        self.assertIsNone(desk.begin())
        self.assertIsNone(desk.keep())


if __name__ == "__main__":
    unittest.main()
