"""Joints, one behind another, and blocks."""

from itertools import islice
import unittest

from lostland.errors import InvalidSpot, NoLand, NotNext, NotOne, UnknownSheet, Unled
from lostland.flats import Flat
from lostland.joints import Joint, blocks, joint, joints
from lostland.motions import Motion
from lostland.rooms import Room
from lostland.sheets import Sheet
from lostland.spaces import Space
from lostland.tables import Table
from lostland.texts import read_room
from lostland.where import where
from lostland.whole import whole_land
from tests import oracle
from tests.support import (
    ANY_VALUES, KINDS, NOT_NAMES, NOT_SPOTS, ORIGIN, SPOTS, frac, motion, num, some_spot, spot)
from tests.test_judging import JudgeCase
from tests.test_where import EXAMPLE, HINGE
from tests.test_whole import LANDWARD, SLANTED_TWO

SIZES = {"none": -1, "pin": 0, "hinge": 1, "one": 2}
# By two kinds and the number of shared marks (not in line where there are three): the size.
SHARED = {
    ("slanted", "slanted"): [-1, 0, 1, 2], ("turned", "turned"): [-1, 0, 2, 2],
    ("mirrored", "mirrored"): [-1, 0, 2, 2], ("stretched", "stretched"): [-1, 0, 2, 2],
    ("sized", "sized"): [-1, 0, 2, 2], ("even", "even"): [-1, 2, 2, 2],
    ("turned", "slanted"): [-1, 0, 1, 2], ("turned", "mirrored"): [-1, 0, 2, None],
    ("slanted", "even"): [-1, 0, 1, 2], ("sized", "even"): [-1, 0, 2, 2],
    ("stretched", "even"): [-1, 0, 2, 2], ("turned", "sized"): [-1, 0, 2, 2],
}


def expected_size(room, told, one, other):
    """The size of a joint, by an elimination over the spots of both sheets."""
    rows = []
    for values in oracle.null_base(room, told):
        for axis in (0, 1):
            row = {"": values["move", one, axis] - values["move", other, axis]}
            for at in (0, 1):
                row[f"x{at}"] = oracle.value(oracle.entry(room, one, axis, at), values)
                row[f"y{at}"] = -oracle.value(oracle.entry(room, other, axis, at), values)
            rows.append({key: item for key, item in row.items() if item != 0})
    steps = oracle.steps_down(rows)
    return -1 if any(pivot == "" for pivot, _ in steps) else 4 - len(steps)


def sharing(kind, other, spots):
    """A room of two sheets of these kinds that share marks with spots on them both."""
    marks = "abcdefgh"
    return Room(Sheet("s", kind, [(mark, spot) for mark, (spot, _) in zip(marks, spots)]),
                Sheet("t", other, [(mark, spot) for mark, (_, spot) in zip(marks, spots)]))


class JointCase(JudgeCase):
    def check(self, space, one, other):
        """All that a joint tells, against an elimination and against where."""
        found = joint(space, one, other)
        self.assertIs(type(found), Joint)
        self.same([found.one, found.other], [one, other])
        self.same(found.size, expected_size(space.room, space.told(), one, other))
        self.same(SIZES[found.word], found.size)
        self.same(found.flat().size, found.size)
        self.same(found.image().size, found.size)
        self.assertEqual(repr(found), f"Joint({one} {other}, {found.word})")
        self.check_pairs(found)
        land = whole_land(space)
        for place in [some_spot(self.rng, 2) for _ in range(3)] + self.led_spots(found):
            known = where(space, ("spot", one, place), on=other)
            self.assertIs(place in found.flat(), known is not None)
            if known is None:
                self.fails(Unled, {"value": place}, found.lead, place)
            else:
                self.same(found.lead(place), known)
                self.same(land.spot(("spot", one, place), other), known)
                self.assertIn(known, found.image())
                self.same(found.back().lead(spot=known), place)
        self.assertEqual(found, joint(one=one, other=other, space=space))
        self.assertEqual(found.back(), joint(space, other, one))
        self.assertEqual(found.back().back(), found)
        return found

    def led_spots(self, found):
        """Drawn spots of the flat of a joint."""
        spots = found.flat().spots()
        if len(spots) < 2:
            return spots
        drawn = []
        for _ in range(2):
            weights = [num(self.rng.randint(-3, 3), 2) for _ in spots[1:]]
            weights.append(num(1 - sum(frac(weight) for weight in weights)))
            drawn.append(tuple(num(sum(frac(weight) * frac(one[axis]) for weight, one in zip(weights, spots)))
                               for axis in (0, 1)))
        return spots + drawn

    def check_pairs(self, found):
        pairs = found.pairs()
        self.same(len(pairs), found.size + 1)
        self.assertEqual(Flat(*[place for place, _ in pairs]), found.flat())
        self.assertEqual(Flat(*[image for _, image in pairs]), found.image())
        for place, image in pairs:
            self.same(found.lead(place), image)
        pairs.clear()
        self.same(len(found.pairs()), found.size + 1)
        if found.size < 2:
            self.fails(NotOne, {"one": found.one, "other": found.other}, found.motion_over)
        else:
            over = found.motion_over()
            self.assertIs(type(over), Motion)
            self.assertNotEqual(over.table.det, (0, 1))
            self.assertEqual([over(place) for place, _ in found.pairs()],
                             [image for _, image in found.pairs()])


class TestJoint(JointCase):
    def test_the_examples(self):
        self.same(joint(Space(EXAMPLE), "s", "t").word, "one")
        self.same(joint(Space(HINGE), "s", "t").word, "hinge")
        self.assertEqual(joint(Space(EXAMPLE), "s", "t").motion_over(), motion(0, -2, 2, 0))
        found = self.check(Space(HINGE), "s", "t")
        self.same(found.lead(spot(6, 0)), spot(3, 0))
        self.same(found.flat().equation(), (0, 1, 0))
        self.same(found.back().lead(spot(1, 0)), spot(2, 0))

    def test_two_sheets_that_share_marks(self):
        spots = [(ORIGIN, spot(3, 3)), (spot(1, 2), spot(5, 7)), (spot(0, 1), spot(3, 5)), (spot(1, 1), spot(5, 5))]
        for (one, other), sizes in SHARED.items():
            for many, size in enumerate(sizes):
                pairs = spots[:many]
                if "even" == one == other:
                    pairs = [(place, (num(frac(place[0]) + 3), place[1])) for place, _ in pairs]
                for first, second in ((one, other), (other, one)):
                    if size is not None:
                        found = self.check(Space(sharing(first, second, pairs)), "s", "t")
                        self.same(found.size, size)

    def test_each_pair_of_kinds(self):
        for one in KINDS:
            for other in KINDS:
                for many in range(4):
                    room, _ = oracle.drawn(self.rng, [one, other], many, often=1)
                    self.check(Space(room), "s", "t")

    def test_marks_in_line_and_at_one_spot(self):
        in_line = [(ORIGIN, spot(1, 1)), (spot(1, 1), spot(2, 2)), (spot(3, 3), spot(4, 4))]
        at_one = [(spot(2, 1), spot(4, 4)), (spot(2, 1), spot(4, 4))]
        for kind in KINDS:
            size = {"slanted": 1}.get(kind, 2)
            self.same(self.check(Space(sharing(kind, kind, in_line)), "s", "t").size, size)
            self.same(self.check(Space(sharing(kind, kind, in_line[:2])), "s", "t").size, size)
            size = {"even": 2}.get(kind, 0)
            self.same(self.check(Space(sharing(kind, kind, at_one)), "s", "t").size, size)
        # Two stretched sheets whose shared marks lie along an axis.
        along = [(ORIGIN, ORIGIN), (spot(1, 0), spot(2, 0))]
        found = self.check(Space(sharing("stretched", "stretched", along)), "s", "t")
        self.same([found.word, found.flat().equation()], ["hinge", (0, 1, 0)])

    def test_a_sheet_with_itself(self):
        for room in (HINGE, EXAMPLE, Room(Sheet("s", "slanted")), Room(Sheet("s", "even"))):
            found = self.check(Space(room), "s", "s")
            self.same(found.word, "one")
            self.assertEqual(found.flat(), Flat.whole())
            self.assertEqual(found.motion_over(), Motion.identity())
            self.assertEqual(found.back(), found)
            for place in SPOTS:
                self.same(found.lead(place), place)

    def test_over_a_third_sheet(self):
        room = read_room("sheet s turned\na 0 0\nb 1 0\nend\nsheet t turned\na 1 1\nb 1 3\nc 0 0\nd 5 5\nend\n"
                         "sheet u sized\nc 0 0\nd 1 0\nend\n")
        space = Space(room)
        found = self.check(space, "s", "u")
        self.same(found.word, "one")
        chain = joint(space, "s", "t").then(joint(space, "t", "u"))
        self.assertEqual(chain, found)
        # Each of two pins alone leads nothing over, but the sheets beside them do.
        room = read_room("sheet s slanted\na 0 0\nb 1 0\nend\nsheet t slanted\na 0 0\nc 0 1\nend\n"
                         "sheet u slanted\nb 1 0\nc 0 1\na 2 2\nend\n")
        self.same(self.check(Space(room), "s", "t").word, "pin")
        self.same(self.check(Space(room), "s", "u").word, "hinge")

    def test_over_told_claims(self):
        room = read_room("sheet s slanted\nend\nsheet t slanted\nend\nsheet u turned\nend\n")
        told, sizes = [], []
        for x, y in [(0, 0), (1, 0), (0, 1), (1, 1)]:
            sizes.append(self.check(Space(room, told=told), "s", "t").size)
            told.append(("same", ("spot", "s", spot(x, y)), ("spot", "t", spot(2 * x, y - x))))
        self.same(sizes, [-1, 0, 1, 2])
        self.same(self.check(Space(room, told=told), "s", "t").lead(spot(1, 1)), spot(2, 0))
        middle = [("middle", ("spot", "s", ORIGIN), ("spot", "t", ORIGIN), ("spot", "u", ORIGIN))]
        self.same(self.check(Space(room, told=middle), "s", "t").size, -1)

    def test_even_sheets(self):
        # The scale is one for all of them, so that a mark is enough, and one sheet moves others.
        room = read_room("sheet s even\na 0 0\nend\nsheet t even\nb 0 0\nend\nsheet u slanted\na 0 0\nb 1 0\nend\n")
        space = Space(room)
        self.same([self.check(space, *pair).word for pair in ("st", "su", "tu")], ["none", "pin", "pin"])
        room = room.with_reading("t", "a", spot(3, 4))
        self.same(self.check(Space(room), "s", "t").motion_over(), motion(1, 0, 0, 1, 3, 4))

    def test_drawn_spaces(self):
        found = {}
        for _ in range(45):
            room, told = self.standing()
            space = Space(room, told=told)
            names = room.names()
            words = {}
            for one in names:
                for other in names:
                    words[one, other] = self.check(space, one, other).word
                    found[words[one, other]] = found.get(words[one, other], 0) + (one != other)
            self.check_all(space, words)
        for word in SIZES:
            self.assertGreater(found[word], 3, found)

    def check_all(self, space, words):
        names = space.room.names()
        expected = [joint(space, one, other) for at, one in enumerate(names)
                    for other in names[at + 1:] if words[one, other] != "none"]
        self.assertEqual(list(joints(space)), expected)
        self.assertEqual([repr(one) for one in joints(space)], [repr(one) for one in expected])
        found = blocks(space)
        self.assertEqual(sorted(sum(found, [])), sorted(names))
        for block in found:
            self.same(block, [name for name in names if words[block[0], name] == "one"])
        self.same([block[0] for block in found], [name for name in names if name in [b[0] for b in found]])

    def test_chains_in_drawn_spaces(self):
        longer = 0
        for _ in range(25):
            room, told = self.standing()
            space = Space(room, told=told)
            for one in room.names():
                for middle in room.names():
                    for other in room.names():
                        first, second = joint(space, one, middle), joint(space, middle, other)
                        chain = first.then(following=second)
                        outer = joint(space, one, other)
                        self.same([chain.one, chain.other], [one, other])
                        self.assertEqual(chain.flat() & outer.flat(), chain.flat())
                        self.check_pairs(chain)
                        for place in self.led_spots(chain):
                            self.same(chain.lead(place), outer.lead(place))
                            self.same(second.lead(first.lead(place)), chain.lead(place))
                        for place in self.led_spots(first):
                            self.assertIs(first.lead(place) in second.flat(), place in chain.flat())
                        self.assertIs(chain == outer, chain.size == outer.size)
                        longer += chain.size < outer.size
        self.assertGreater(longer, 3)


class TestJointObjects(JointCase):
    def test_equality(self):
        space = Space(HINGE)
        found = joint(space, "s", "t")
        self.assertEqual(found, joint(Space(HINGE), "s", "t"))
        self.assertNotEqual(found, found.back())
        self.assertNotEqual(found, joint(space, "s", "s"))
        # The same lines led to the same lines, but the spots to others.
        other = Space(HINGE.with_reading("t", "b", spot(5, 0)))
        self.assertEqual(joint(other, "s", "t").flat(), found.flat())
        self.assertEqual(joint(other, "s", "t").image(), found.image())
        self.assertNotEqual(joint(other, "s", "t"), found)
        # A line and all spots, equal on the line.
        full = Space(HINGE.with_reading("t", "d", spot(7, 7)))
        self.assertNotEqual(joint(full, "s", "t"), found)
        self.same(joint(full, "s", "t").lead(spot(6, 0)), found.lead(spot(6, 0)))
        # Other readings, the same joint.
        self.assertEqual(joint(Space(HINGE.without("s", "d").without("t", "c")), "s", "t"), found)
        named = Room(HINGE.sheet("s"), HINGE.sheet("t").named("u"))
        self.assertNotEqual(joint(Space(named), "s", "u"), found)
        apart = read_room("sheet s even\nend\nsheet t even\nend\nsheet u sized\nend\n")
        self.assertEqual(joint(Space(apart), "s", "u"), joint(Space(apart.with_mark("a")), "s", "u"))
        self.assertNotEqual(joint(Space(apart), "s", "u"), joint(Space(apart), "t", "u"))
        self.assertNotEqual(joint(Space(apart), "u", "s"), joint(Space(apart), "u", "t"))
        for value in ANY_VALUES:
            self.assertIs(found == value, False)
            self.assertIs(found != value, True)
        self.assertIs(bool(joint(Space(apart), "s", "t")), True)

    def test_chains_of_joints_without_spots(self):
        room = read_room("sheet s even\na 0 0\nend\nsheet t turned\na 0 0\nb 1 0\nend\nsheet u sized\nb 0 0\nend\n")
        space = Space(room)
        chain = joint(space, "s", "t").then(joint(space, "t", "u"))
        self.same([chain.size, chain.word, chain.pairs()], [-1, "none", []])
        self.assertEqual(chain.flat(), Flat())
        self.assertEqual(chain.image(), Flat())
        self.assertEqual(chain, joint(space, "s", "u"))
        self.fails(Unled, {"value": ORIGIN}, chain.lead, ORIGIN)
        self.fails(InvalidSpot, {"value": None}, chain.lead, None)
        self.fails(NotOne, {"one": "s", "other": "u"}, chain.motion_over)
        back = joint(space, "s", "t").then(joint(space, "t", "s"))
        self.same([back.one, back.other, back.word], ["s", "s", "pin"])
        self.same(back.lead(ORIGIN), ORIGIN)
        self.assertNotEqual(back, joint(space, "s", "s"))
        whole = joint(space, "s", "s")
        self.assertEqual(whole.then(joint(space, "s", "t")), joint(space, "s", "t"))
        self.assertEqual(joint(space, "t", "s").then(whole), joint(space, "t", "s"))

    def test_lines_that_cross_between(self):
        room = read_room("sheet s slanted\na 0 0\nb 1 0\nend\nsheet t slanted\na 0 0\nb 1 0\nc 0 1\nd 3 1\nend\n"
                         "sheet u slanted\nc 0 0\nd 1 1\nend\nsheet v slanted\na 1 1\nc 2 2\nend\n")
        space = Space(room)
        self.same(joint(space, "s", "t").then(joint(space, "t", "u")).word, "none")
        chain = joint(space, "s", "t").then(joint(space, "t", "v"))
        self.same([chain.word, chain.pairs()], ["pin", [(ORIGIN, spot(1, 1))]])
        self.assertEqual(chain.back(), joint(space, "v", "t").then(joint(space, "t", "s")))

    def test_lead_of_any_value(self):
        for space in (Space(HINGE), Space(EXAMPLE), Space(HINGE.without("s", "a").without("t", "b"))):
            found = joint(space, "s", "t")
            for value in NOT_SPOTS + NOT_NAMES:
                self.fails(InvalidSpot, {"value": value}, found.lead, value)
        found = joint(Space(HINGE), "s", "t")
        for value in [spot(0, 1), spot(5, "1/7"), SPOTS[-1]]:
            self.fails(Unled, {"value": value}, found.lead, value)

    def test_not_next(self):
        space = Space(HINGE)
        found = joint(space, "s", "t")
        self.fails(NotNext, {}, found.then, found)
        self.fails(NotNext, {}, found.then, joint(space, "s", "s"))
        self.assertEqual(found.then(found.back()).then(found), found)

    def test_returned_flats_and_lists_are_no_part_of_the_joint(self):
        found = joint(Space(HINGE), "s", "t")
        found.flat().spots().clear()
        found.pairs().clear()
        found.image().spots().append(None)
        self.check_pairs(found)
        self.assertEqual(found, joint(Space(HINGE), "s", "t"))


class TestAll(JointCase):
    def test_joints_come_in_order(self):
        room = read_room("sheet z even\na 0 0\nend\nsheet b even\na 1 1\nend\nsheet c sized\nend\n"
                         "sheet a turned\na 0 0\nend\n")
        space = Space(room)
        self.assertEqual([repr(one) for one in joints(space=space)],
                         ["Joint(z b, one)", "Joint(z a, pin)", "Joint(b a, pin)"])
        self.same(blocks(space), [["z", "b"], ["c"], ["a"]])
        self.assertEqual([repr(one) for one in islice(joints(space), 2)],
                         ["Joint(z b, one)", "Joint(z a, pin)"])

    def test_blocks_that_do_not_stand_together(self):
        room = read_room("sheet s sized\na 0 0\nb 1 0\nend\nsheet t even\nend\nsheet u turned\na 0 0\nb 0 1\nend\n"
                         "sheet v even\nend\nsheet w sized\nc 5 5\nend\n")
        room = room.with_reading("v", "c", ORIGIN).with_reading("t", "c", ORIGIN)
        found = blocks(space=Space(room))
        self.same(found, [["s", "u"], ["t", "v"], ["w"]])
        found[0].append("x")
        found.clear()
        self.same(blocks(Space(room)), [["s", "u"], ["t", "v"], ["w"]])

    def test_empty_rooms(self):
        self.same(list(joints(Space(Room()))), [])
        self.same(blocks(Space(Room(marks=["a"]))), [])
        self.same(list(joints(Space(Room(Sheet("s", "sized"))))), [])
        self.same(blocks(Space(Room(Sheet("s", "sized")))), [["s"]])

    def test_eight_sheets(self):
        room = Room(*[Sheet(name, "turned", [("a", ORIGIN), ("b", spot(at + 1, 0))])
                      for at, name in enumerate("stuvwxyz")])
        self.same(len(list(joints(Space(room)))), 28)
        self.same(blocks(Space(room)), [list("stuvwxyz")])

    def test_errors(self):
        for space in (Space(HINGE), Space(SLANTED_TWO)):
            for value in ANY_VALUES + NOT_NAMES + ["u", "a", ("s",)]:
                self.fails(UnknownSheet, {"name": value}, joint, space, value, "t")
                self.fails(UnknownSheet, {"name": value}, joint, space, "s", value)
                self.fails(UnknownSheet, {"name": value}, joint, space, value, None)
        self.fails(UnknownSheet, {"name": "x"}, joint, Space(HINGE), "x", "y")
        for room, name in ((SLANTED_TWO, "s"), (LANDWARD, "r")):
            space = Space(room)
            told = {"name": name}
            first = room.names()[0]
            self.fails(NoLand, told, joint, space, first, first)
            self.fails(NoLand, told, blocks, space)
            later = joints(space)
            self.fails(NoLand, told, next, later)
        alone = Space(read_room("sheet s even\na 0 0\nb 0 0\nend\n"), told=[
            ("same", ("spot", "s", ORIGIN), ("spot", "s", spot(1, 0)))])
        self.fails(NoLand, {"name": "s"}, list, joints(alone))

    def test_motions_over_fit_tables(self):
        # The motion of a joint takes the tables of the lands to one another.
        for _ in range(10):
            room, told = self.standing()
            space = Space(room, told=told)
            land = whole_land(space)
            for found in joints(space):
                if found.word == "one":
                    both = land.motion(found.other) * found.motion_over()
                    self.assertEqual(both, land.motion(found.one))
                    self.assertIs(type(both.table), Table)


if __name__ == "__main__":
    unittest.main()
