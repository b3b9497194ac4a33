"""Sheets that are redrawn, flipped, laid over, cut and joined."""

from fractions import Fraction
import unittest

from lostland.areas import scale
from lostland.claims import read_claim
from lostland.errors import (
    DuplicateName, InvalidName, NoLand, NotOfKind, NotOne, Singular, TooMany, Uncut, UnknownMark,
    UnknownSheet)
from lostland.hands import hand
from lostland.joints import blocks, joint
from lostland.judging import judge
from lostland.motions import Motion
from lostland.redraw import cut, drawn_block, flipped, joined, overlaid, redrawn
from lostland.rooms import Room
from lostland.sheets import Sheet
from lostland.spaces import Space
from lostland.texts import read_room, room_text
from lostland.where import index_of, where
from lostland.whole import pressed, stands
from tests import oracle
from tests.support import (
    ANY_VALUES, KINDS, NOT_NAMES, ORIGIN, frac, motion, num, some_motion, spot, table)
from tests.test_judging import JudgeCase
from tests.test_where import EXAMPLE, HINGE
from tests.test_whole import LANDWARD, SLANTED_TWO

OTHER_HAND = {"right": "left", "left": "right", "either": "either"}
FLIP = motion(1, 0, 0, -1)


def quad_of(own):
    """A table as rows of Fractions."""
    a, b, c, d = [frac(entry) for entry in own.entries()]
    return [[a, b], [c, d]]


def product(one, other):
    return [[sum(one[r][k] * other[k][c] for k in (0, 1)) for c in (0, 1)] for r in (0, 1)]


def inverse(quad):
    (a, b), (c, d) = quad
    det = a * d - b * c
    return [[d / det, -b / det], [-c / det, a / det]]


def is_of(kind, quad):
    """Whether a table is one of a kind, where even counts as sized."""
    (a, b), (c, d) = quad
    return {"slanted": True, "turned": a == d and b == -c, "mirrored": a == -d and b == c,
            "stretched": b == c == 0}.get(kind, b == c == 0 and a == d)


def units(kind):
    """Tables of which each table of a kind is a sum of multiples."""
    return [[[Fraction(0) if part is None else Fraction(part[1] * (part[0] == own)) for part in row]
             for row in oracle.ENTRIES[kind]] for own in range(oracle.COUNTS.get(kind, 1))]


def fits(kind, quad):
    """Whether a sheet may be redrawn by a table."""
    back = inverse(quad)
    if kind == "even":
        return back == [[1, 0], [0, 1]]
    return all(is_of(kind, product(unit, back)) for unit in units(kind))


def can_join(stays, quad, goes):
    if goes == "even" and stays != "even":
        return False
    return all(is_of(goes, product(unit, quad)) for unit in units(stays))


def moved_spot(own, place):
    x, y = map(frac, place)
    (a, b), (c, d) = quad_of(own.table)
    return (num(a * x + b * y + frac(own.move[0])), num(c * x + d * y + frac(own.move[1])))


def moved_claim(claim, name, own, target):
    """A claim with the points on a sheet moved, by replacing them wherever they stand in it."""
    if isinstance(claim, tuple) and len(claim) == 3 and claim[:2] == ("spot", name):
        return ("spot", target, moved_spot(own, claim[2]))
    if isinstance(claim, tuple):
        return tuple(moved_claim(part, name, own, target) for part in claim)
    return claim


class RedrawCase(JudgeCase):
    def fitting(self, kind):
        """A drawn motion that fits a kind."""
        while True:
            quad = [[self.rng.randint(-3, 3) for _ in (0, 1)] for _ in (0, 1)]
            (a, b), (c, d) = quad
            if kind in ("turned", "mirrored"):
                quad = [[a, b], [-b, a]]
            elif kind == "stretched":
                quad = [[a, 0], [0, d]]
            elif kind == "sized":
                quad = [[a, 0], [0, a]]
            elif kind == "even":
                quad = [[1, 0], [0, 1]]
            own = Motion(table(*quad[0], *quad[1]), spot(self.rng.randint(-3, 3), "1/2"))
            if own.table.det != (0, 1):
                return own

    def check_moved(self, space, after, name, own, kind):
        """The sheet is moved, in its place, and all answers are as before with its spots moved."""
        room, told = space.room, space.told()
        sheets = [sheet if sheet.name != name else
                  Sheet(name, kind, [(mark, moved_spot(own, place)) for mark, place in sheet.readings()])
                  for sheet in room.sheets()]
        self.assertIs(type(after), Space)
        self.assertEqual(after.room, Room(*sheets, marks=room.marks()))
        self.same(after.told(), [moved_claim(claim, name, own, name) for claim in told])
        self.same([after.freedoms, pressed(after)], [space.freedoms, pressed(space)])
        if not stands(space):
            return
        turn = own.table.det > (0, 1) if own.table.det[0] != 0 else None
        self.same(hand(after, name), hand(space, name) if turn else OTHER_HAND[hand(space, name)])
        self.check_index(space, after, name, own)
        for other in room.names():
            self.same(joint(after, name, other).word, joint(space, name, other).word)
            if other != name:
                self.same(hand(after, other), hand(space, other))
                before = scale(space, name, other)
                expected = None if before is None else num(frac(before) / frac(own.table.det))
                self.same(scale(after, name, other), expected)
        for _ in range(2):
            saying = self.some_saying(room, told)
            moved = [moved_claim(claim, name, own, name) for claim in saying]
            self.same(judge(after, moved), judge(space, saying))

    def check_index(self, space, after, name, own):
        expected = index_of(space)
        for mark in expected:
            if name in expected[mark]:
                expected[mark][name] = moved_spot(own, expected[mark][name])
        self.same(index_of(after), expected)


class TestRedrawn(RedrawCase):
    def test_each_kind(self):
        motions = [motion(1, 0, 0, 1, 2, 3), motion(2, 0, 0, 2), motion(-1, 0, 0, -1), motion(1, 0, 0, -1),
                   motion(0, 1, 1, 0), motion(0, -1, 1, 0, 5), motion(3, -4, 4, 3), motion(3, 0, 0, "1/2"),
                   motion(1, 1, 0, 1), motion(3, 4, 4, -3), motion(2, 1, 1, 1)]
        for kind in KINDS:
            room = Room(Sheet("s", kind, [("a", ORIGIN), ("b", spot(1, 2))]), Sheet("t", "even", [("a", ORIGIN)]))
            space = Space(room, told=[read_claim(room, "middle a s:1:1 s:-1:-1"), read_claim(room, "same b b"),
                                      read_claim(room, "mix s:1:2 2 b -1 s:1:2")])
            for own in motions:
                if fits(kind, quad_of(own.table)):
                    self.check_moved(space, redrawn(space, "s", own), "s", own, kind)
                else:
                    self.fails(NotOfKind, {"name": "s"}, redrawn, space, "s", own)
            self.same(room_text(redrawn(motion=motions[0], name="s", space=space).room),
                      f"sheet s {kind}\na 2 3\nb 3 5\nend\nsheet t even\na 0 0\nend\n")

    def test_drawn_spaces(self):
        refused = 0
        for _ in range(60):
            room, told = self.drawn()
            space = Space(room, told=told)
            name = self.rng.choice(room.names())
            kind = room.sheet(name).kind
            own = some_motion(self.rng, 2) if self.rng.random() < 0.2 else self.fitting(kind)
            if own.table.det == (0, 1):
                self.fails(Singular, {}, redrawn, space, name, own)
            elif not fits(kind, quad_of(own.table)):
                self.fails(NotOfKind, {"name": name}, redrawn, space, name, own)
                refused += 1
            else:
                after = redrawn(space, name, own)
                self.check_moved(space, after, name, own, kind)
                back = redrawn(after, name, own.inverse())
                self.assertEqual(back.room, room)
                self.same(back.told(), told)
        self.assertGreater(refused, 3)

    def test_errors(self):
        singular = motion(1, 1, 1, 1)
        for room in (HINGE, SLANTED_TWO):
            for value in ANY_VALUES + NOT_NAMES + ["u", "a", ("s",)]:
                self.fails(UnknownSheet, {"name": value}, redrawn, Space(room), value, singular)
            self.fails(Singular, {}, redrawn, Space(room), "s", singular)
            self.fails(Singular, {}, redrawn, Space(room), "s", motion(0, 0, 0, 0, 1, 1))
        for kind in KINDS:
            self.fails(Singular, {}, redrawn, Space(Room(Sheet("s", kind))), "s", singular)
        # A space that does not stand is redrawn all the same.
        after = redrawn(Space(SLANTED_TWO), "t", motion(1, 2, 3, 4))
        self.same(pressed(after), ["s", "t"])


class TestFlipped(RedrawCase):
    def test_each_kind(self):
        kinds = {"slanted": "slanted", "turned": "mirrored", "mirrored": "turned", "stretched": "stretched"}
        for kind in KINDS:
            room = Room(Sheet("s", kind, [("a", spot(3, 4))]), Sheet("t", "turned", [("a", spot(3, 4))]))
            space = Space(room, told=[read_claim(room, "middle a s:1:1 s:5:7"),
                                      read_claim(room, "mix t:1:2 1/2 s:0:1 1/2 s:0:-1")])
            if kind not in kinds:
                self.fails(NotOfKind, {"name": "s"}, flipped, space, "s")
                continue
            after = flipped(space, "s")
            self.check_moved(space, after, "s", FLIP, kinds[kind])
            self.same(room_text(after.room), f"sheet s {kinds[kind]}\na 3 -4\nend\nsheet t turned\na 3 4\nend\n")
            twice = flipped(name="s", space=after)
            self.assertEqual(twice.room, room)
            self.same(twice.told(), space.told())

    def test_drawn_spaces(self):
        for _ in range(40):
            room, told = self.drawn()
            space = Space(room, told=told)
            for name in room.names():
                kind = room.sheet(name).kind
                if kind in ("sized", "even"):
                    self.fails(NotOfKind, {"name": name}, flipped, space, name)
                    continue
                turned = {"turned": "mirrored", "mirrored": "turned"}.get(kind, kind)
                after = flipped(space, name)
                self.check_moved(space, after, name, FLIP, turned)
                self.assertEqual(flipped(after, name).room, room)

    def test_errors(self):
        for room in (HINGE, SLANTED_TWO):
            for value in ANY_VALUES + NOT_NAMES + ["u", "a", ("s",)]:
                self.fails(UnknownSheet, {"name": value}, flipped, Space(room), value)


class TestOverlaid(RedrawCase):
    def test_known_rooms(self):
        after = overlaid(Space(HINGE), "t")
        self.same(room_text(after.room), room_text(HINGE.with_reading("t", "m", spot("1/2", 0))))
        after = overlaid(on="t", space=Space(EXAMPLE.with_mark("x")))
        self.same(after.room.sheet("t").readings(),
                  [("a", ORIGIN), ("b", spot(0, 2)), ("c", spot(-2, 0))])
        self.same(after.room.loose(), ["x"])
        room = read_room("sheet s sized\nz 0 0\nend\nmark a\nmark b\nmark c\n")
        told = [read_claim(room, text) for text in ("same c s:1:2", "middle z a c", "same b a")]
        after = overlaid(Space(room, told=told), "s")
        self.same(after.room.sheet("s").readings(), [("z", ORIGIN), ("a", spot(-1, -2)), ("b", spot(-1, -2)),
                                                     ("c", spot(1, 2))])
        self.same(after.told(), told)

    def test_drawn_spaces(self):
        more = 0
        for _ in range(40):
            room, told = self.standing()
            space = Space(room, told=told)
            for name in room.names():
                sheet = room.sheet(name)
                for mark in room.marks():
                    known = where(space, ("mark", mark), on=name)
                    if mark not in sheet and known is not None:
                        sheet, more = Sheet(name, sheet.kind, sheet.readings() + [(mark, known)]), more + 1
                after = overlaid(space, name)
                self.assertEqual(after.room, room.with_sheet(sheet))
                self.same(after.told(), told)
                self.assertEqual(after, space)
                self.assertEqual(overlaid(after, name).room, after.room)
        self.assertGreater(more, 10)

    def test_errors(self):
        for room in (HINGE, SLANTED_TWO):
            for value in ANY_VALUES + NOT_NAMES + ["u", "a", ("s",)]:
                self.fails(UnknownSheet, {"name": value}, overlaid, Space(room), value)
        self.fails(NoLand, {"name": "s"}, overlaid, Space(SLANTED_TWO), "t")
        self.fails(NoLand, {"name": "r"}, overlaid, Space(LANDWARD), "p")


class TestCut(RedrawCase):
    def test_known_rooms(self):
        told = [read_claim(HINGE, "middle m a b"), read_claim(HINGE, "same d s:0:1")]
        space = Space(HINGE, told=told)
        after = cut(space, "s", ["b", "a", "m"], ["d", "a"], "u")
        self.same(room_text(after.room), "sheet s slanted\na 0 0\nm 1 0\nb 2 0\nend\n"
                  "sheet t slanted\na 0 0\nb 1 0\nc 0 1\nend\nsheet u slanted\na 0 0\nd 0 1\nend\n")
        self.same(after.told(), told)
        # Marks in both lists, several times, and lists that are tuples.
        both = cut(space, "s", ("a", "d", "a", "m", "b"), ("b", "b", "d", "m", "a"), "u")
        self.same(both.room.sheet("s").readings(), HINGE.sheet("s").readings())
        self.assertEqual(both.room.sheet("u"), HINGE.sheet("s").named("u"))
        self.same(both.freedoms, space.freedoms)
        every = ["a", "m", "b", "d"]
        after = cut(other="u", second=[], first=every, name="s", space=space)
        self.same([len(after.room.sheet("s")), len(after.room.sheet("u"))], [4, 0])
        after = cut(space, "s", [], every, "u")
        self.same([len(after.room.sheet("s")), len(after.room.sheet("u"))], [0, 4])
        self.same(after.room.names(), ["s", "t", "u"])
        self.same(every, ["a", "m", "b", "d"])
        empty = cut(Space(Room(Sheet("s", "even"))), "s", [], [], "a")
        self.same(room_text(empty.room), "sheet s even\nend\nsheet a even\nend\n")
        # A mark that is called like a sheet, and a sheet that is called like a mark.
        self.same(cut(space, "t", ["a", "b"], ["c"], "a").room.names(), ["s", "t", "a"])
        self.same(pressed(cut(Space(SLANTED_TWO), "s", ["a", "b", "c"], ["d"], "u")), [])

    def test_drawn_spaces(self):
        for _ in range(40):
            room, told = self.drawn()
            space = Space(room, told=told)
            sheet = self.rng.choice(room.sheets())
            first = [mark for mark in sheet.marks() if self.rng.random() < 0.6]
            second = [mark for mark in sheet.marks() if mark not in first or self.rng.random() < 0.5]
            self.rng.shuffle(first)
            self.rng.shuffle(second)
            after = cut(space, sheet.name, first, second, "new")
            expected = [one if one.name != sheet.name else Sheet(
                one.name, one.kind, [pair for pair in one.readings() if pair[0] in first]) for one in room.sheets()]
            expected.append(Sheet("new", sheet.kind, [pair for pair in sheet.readings() if pair[0] in second]))
            self.assertEqual(after.room, Room(*expected, marks=room.marks()))
            self.same(after.told(), told)
            if set(first) == set(second) == set(sheet.marks()) and sheet.kind != "even":
                self.same(after.freedoms >= space.freedoms, True)

    def test_errors(self):
        space, every = Space(HINGE), ["a", "m", "b", "d"]
        for value in ANY_VALUES + NOT_NAMES + ["u", "a", ("s",)]:
            self.fails(UnknownSheet, {"name": value}, cut, space, value, [None], [None], None)
        for value in ANY_VALUES + NOT_NAMES + ["c", "x", ("a",), ("mark", "a")]:
            if value == "a":
                continue
            for first, second in (([value], [None, None]), (["a", value, None], ["c"]), (["a"], ["b", value, "c"]),
                                  ([], [value]), (every, [value])):
                self.fails(UnknownMark, {"name": value}, cut, space, "s", first, second, "s")
        for first, second, mark in ([], [], "a"), (["a"], ["a"], "m"), (["d"], ["b", "a"], "m"), (["m", "a"], ["d"], "b"):
            self.fails(Uncut, {"mark": mark}, cut, space, "s", first, second, None)
        for value in NOT_NAMES:
            self.fails(InvalidName, {"value": value}, cut, space, "s", every, [], value)
        for name in ("s", "t"):
            self.fails(DuplicateName, {"name": name}, cut, space, "s", every, [], name)
        full = Space(Room(*[Sheet(name, "sized", [("a", ORIGIN)]) for name in "stuvwxyz"]))
        self.fails(InvalidName, {"value": "A"}, cut, full, "s", ["a"], [], "A")
        self.fails(DuplicateName, {"name": "z"}, cut, full, "s", ["a"], [], "z")
        self.fails(TooMany, {"most": 8}, cut, full, "s", ["a"], [], "a")
        self.fails(Uncut, {"mark": "a"}, cut, full, "s", [], [], "a")
        seven = Space(Room(*full.room.sheets()[:7]))
        self.same(cut(seven, "s", ["a"], ["a"], "z").room.names(), list("stuvwxyz"))


class TestJoined(RedrawCase):
    def check(self, space, one, other):
        """Two sheets of one block are joined, or it is refused; what is told of the rest stays."""
        room, told = space.room, space.told()
        over = joint(space, other, one)
        kinds = [room.sheet(name).kind for name in (one, other)]
        if over.word != "one":
            self.fails(NotOne, {"one": one, "other": other}, joined, space, one, other)
            return "apart"
        own = over.motion_over()
        if not can_join(kinds[0], quad_of(own.table), kinds[1]):
            self.fails(NotOfKind, {"name": other}, joined, space, one, other)
            return "refused"
        after = joined(space, one, other)
        stays, goes = room.sheet(one), room.sheet(other)
        more = [(mark, moved_spot(own, place)) for mark, place in goes.readings() if mark not in stays]
        sheets = [sheet if sheet.name != one else Sheet(one, kinds[0], stays.readings() + more)
                  for sheet in room.sheets() if sheet.name != other]
        self.assertEqual(after.room, Room(*sheets, marks=room.marks()))
        self.same(after.told(), [moved_claim(claim, other, own, one) for claim in told])
        self.check_rest(space, after, one, other)
        return "joined"

    def check_rest(self, space, after, one, other):
        self.same([after.freedoms, stands(after)], [space.freedoms, True])
        expected = index_of(space)
        for mark in expected:
            expected[mark].pop(other, None)
        self.same(index_of(after), expected)
        rest = [name for name in space.room.names() if name != other]
        left = [[name for name in block if name != other] for block in blocks(space)]
        self.same(blocks(after), sorted([block for block in left if block], key=lambda block: rest.index(block[0])))
        for name in rest:
            self.same(hand(after, name), hand(space, name))
            self.same(scale(after, name, one), scale(space, name, one))
            self.assertEqual(joint(after, name, one), joint(space, name, one))

    def test_known_rooms(self):
        room = read_room("sheet s turned\na 0 0\nb 1 0\nend\nsheet t turned\na 1 1\nb 1 3\nc 0 0\nend\n"
                         "sheet u sized\nc 0 0\na 1 1\nend\n")
        told = [read_claim(room, text) for text in ("same t:1:1 a", "mix t:1:3 2 b -1 t:1:3", "middle t:1:2 a b")]
        space = Space(room, told=told)
        self.same(self.check(space, "s", "t"), "joined")
        after = joined(space, "s", "t")
        self.same(room_text(after.room), "sheet s turned\na 0 0\nb 1 0\nc -1/2 1/2\nend\nsheet u sized\nc 0 0\na 1 1\nend\n")
        self.same(after.told(), [read_claim(room, text) for text in (
            "same s:0:0 a", "mix s:1:0 2 b -1 s:1:0", "middle s:1/2:0 a b")])
        self.same(room_text(joined(other="s", one="t", space=space).room),
                  "sheet t turned\na 1 1\nb 1 3\nc 0 0\nend\nsheet u sized\nc 0 0\na 1 1\nend\n")
        # A turned sheet goes into a sized one, and not the other way.
        self.same([self.check(space, "u", "t"), self.check(space, "t", "u")], ["joined", "refused"])
        self.fails(NotOfKind, {"name": "u"}, joined, space, "t", "u")

    def test_even_sheets(self):
        room = read_room("sheet s even\na 0 0\nb 1 0\nend\nsheet t even\na 1 1\nc 5 5\nend\n"
                         "sheet u sized\na 0 0\nb 2 0\nend\nsheet v stretched\na 0 0\nb 1 0\nc 1 1\nend\n")
        room = room.with_reading("v", "c", spot(4, 4)).with_reading("v", "b", spot(1, 0))
        space = Space(room)
        self.same(blocks(space), [["s", "t", "u", "v"]])
        words = {pair: self.check(space, *pair) for pair in ["st", "ts", "su", "us", "sv", "vs", "uv", "vu", "tu", "ut"]}
        self.same(words, {"st": "joined", "ts": "joined", "su": "joined", "us": "refused", "sv": "joined",
                          "vs": "refused", "uv": "joined", "vu": "refused", "tu": "joined", "ut": "refused"})

    def test_each_pair_of_kinds(self):
        found = {}
        for one in KINDS:
            for other in KINDS:
                for _ in range(2):
                    room, _ = oracle.drawn(self.rng, [one, other], 3, often=1)
                    space = Space(room)
                    for pair in ("st", "ts"):
                        word = self.check(space, *pair)
                        found[word] = found.get(word, 0) + 1
        for word in ("joined", "refused"):
            self.assertGreater(found[word], 10)

    def test_drawn_spaces(self):
        found = {}
        for _ in range(40):
            room, told = self.standing()
            space = Space(room, told=told)
            for one in room.names():
                for other in room.names():
                    if one != other:
                        word = self.check(space, one, other)
                        found[word] = found.get(word, 0) + 1
        for word in ("joined", "refused", "apart"):
            self.assertGreater(found[word], 3, found)

    def test_errors(self):
        for room in (HINGE, SLANTED_TWO):
            space = Space(room)
            for value in ANY_VALUES + NOT_NAMES + ["u", "a", ("s",)]:
                self.fails(UnknownSheet, {"name": value}, joined, space, value, None)
                self.fails(UnknownSheet, {"name": value}, joined, space, "s", value)
            for name in "st":
                self.fails(DuplicateName, {"name": name}, joined, space, name, name)
        self.fails(NoLand, {"name": "s"}, joined, Space(SLANTED_TWO), "t", "s")
        self.fails(NoLand, {"name": "r"}, joined, Space(LANDWARD), "p", "q")
        self.fails(NotOne, {"one": "t", "other": "s"}, joined, Space(HINGE), "t", "s")


class TestDrawnBlock(RedrawCase):
    def test_known_rooms(self):
        sheets = ["sheet s turned\na 0 0\nb 1 0\nend\n", "sheet t slanted\na 0 0\nd 1 0\nend\n",
                  "sheet u turned\na 1 1\nb 1 3\nc 0 0\nend\n", "sheet v turned\nc 0 0\nb 1 0\nend\n"]
        space = Space(read_room("".join(sheets)))
        self.same(blocks(space), [["s", "u", "v"], ["t"]])
        after = drawn_block(space, "u")
        self.same(room_text(after.room), "sheet t slanted\na 0 0\nd 1 0\nend\nsheet u turned\na 1 1\nb 1 3\nc 0 0\nend\n")
        after = drawn_block(on="s", space=space)
        self.same(after.room.names(), ["s", "t"])
        self.same(after.room.sheet("s").marks(), ["a", "b", "c"])
        self.same(after.freedoms, space.freedoms)
        alone = drawn_block(space, "t")
        self.assertEqual(alone.room, space.room)
        self.assertIs(type(alone), Space)

    def test_the_first_that_does_not_fit(self):
        room = read_room("sheet s even\na 0 0\nb 1 0\nend\nsheet t sized\na 0 0\nb 1 0\nend\n"
                         "sheet u even\na 0 0\nend\nsheet v stretched\na 0 0\nd 1 1\nend\n")
        self.fails(NotOfKind, {"name": "s"}, drawn_block, Space(room), "t")
        self.same(drawn_block(Space(room), "s").room.names(), ["s", "v"])
        room = room.with_reading("v", "b", spot(1, 0)).with_reading("v", "c", spot(0, 1)).with_reading("t", "c", spot(0, 1))
        self.same(drawn_block(Space(room), "s").room.names(), ["s"])
        self.fails(NotOfKind, {"name": "s"}, drawn_block, Space(room), "v")
        order = Room(*[room.sheet(name) for name in "tvus"])
        self.fails(NotOfKind, {"name": "t"}, drawn_block, Space(order), "v")
        self.fails(NotOfKind, {"name": "u"}, drawn_block, Space(order), "t")

    def test_drawn_spaces(self):
        found = []
        for _ in range(40):
            room, told = self.standing()
            space = Space(room, told=told)
            for name in room.names():
                block = [block for block in blocks(space) if name in block][0]
                expected, wrong = space, None
                for other in block:
                    if other == name or wrong is not None:
                        continue
                    over = joint(expected, other, name).motion_over()
                    if can_join(room.sheet(name).kind, quad_of(over.table), room.sheet(other).kind):
                        expected = joined(expected, name, other)
                    else:
                        wrong = other
                found.append((len(block) > 1, wrong is None))
                if wrong is not None:
                    self.fails(NotOfKind, {"name": wrong}, drawn_block, space, name)
                    continue
                after = drawn_block(space, name)
                self.assertEqual(after.room, expected.room)
                self.same(after.told(), expected.told())
                self.same(after.freedoms, space.freedoms)
        self.assertIn((True, True), found)
        self.assertIn((True, False), found)

    def test_errors(self):
        for room in (HINGE, SLANTED_TWO):
            for value in ANY_VALUES + NOT_NAMES + ["u", "a", ("s",)]:
                self.fails(UnknownSheet, {"name": value}, drawn_block, Space(room), value)
        self.fails(NoLand, {"name": "s"}, drawn_block, Space(SLANTED_TWO), "t")
        self.fails(NoLand, {"name": "r"}, drawn_block, Space(LANDWARD), "p")


if __name__ == "__main__":
    unittest.main()
