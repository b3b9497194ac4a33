"""Areas, their quotients, and the scales of sheets."""

from fractions import Fraction
import unittest

from lostland.areas import area, quotient, quotient_lands, scale, scale_lands
from lostland.claims import read_claim
from lostland.errors import InvalidPoint, NoArea, NoLand, UnknownSheet
from lostland.points import read_point
from lostland.rooms import Room
from lostland.sheets import Sheet
from lostland.spaces import Space
from lostland.texts import read_room
from lostland.whole import whole_land
from tests import oracle, papers
from tests.support import (
    ANY_VALUES, KINDS, NOT_NAMES, NOT_SPOTS, ORIGIN, ZERO, frac, num, spot)
from tests.test_judging import JudgeCase
from tests.test_where import EXAMPLE, HINGE
from tests.test_whole import LANDWARD, SLANTED_TWO

A, B, C, D, M = [("mark", mark) for mark in "abcdm"]
CORNER = [ORIGIN, spot(1, 0), spot(0, 1)]


def on(name, *spots):
    return tuple(("spot", name, place) for place in spots)


def area_at(room, triple, values):
    """The area of a triple of points, from the values of the unknowns."""
    p, q, r = [[oracle.value(oracle.place(room, point, axis), values) for axis in (0, 1)]
               for point in triple]
    return (q[0] - p[0]) * (r[1] - p[1]) - (r[0] - p[0]) * (q[1] - p[1])


def area_square(room, triple, base):
    """Areas of all sums of two lands of a base (of each one with itself, too)."""
    found = []
    for at, one in enumerate(base):
        for other in base[at:]:
            found.append(area_at(room, triple, {key: one[key] + other[key] for key in one}))
    return found


class AreaCase(JudgeCase):
    def expected(self, room, told, triple, other):
        """The quotient, None, or the word for no area."""
        base = oracle.null_base(room, told)
        over, under = area_square(room, triple, base), area_square(room, other, base)
        if not any(under):
            return "none"
        at = [item != 0 for item in under].index(True)
        ratio = over[at] / under[at]
        return num(ratio) if over == [ratio * item for item in under] else None

    def check(self, space, triple, other):
        room, told = space.room, space.told()
        expected = self.expected(room, told, triple, other)
        if expected == "none":
            self.fails(NoArea, {}, quotient, space, triple, other)
            self.fails(NoArea, {}, quotient_lands, space, triple, other)
            return expected
        self.same(quotient(space, triple, other), expected)
        self.check_lands(space, quotient_lands(space, triple, other), expected,
                         lambda land: (area(land, triple), area(land, other)))
        return expected

    def check_lands(self, space, lands, expected, parts):
        if expected is not None:
            self.assertIsNone(lands)
            for _ in range(3):
                values = oracle.mixed_values(self.rng, oracle.null_base(space.room, space.told()), space.room)
                over, under = parts(oracle.land_from(space.room, values))
                self.assertEqual(frac(over), frac(expected) * frac(under))
            return
        self.assertIs(type(lands), tuple)
        self.same(len(lands), 2)
        found = []
        for land in lands:
            self.assertTrue(papers.is_whole_land(space.room, space.told(), land))
            self.assertIs(space.has(land) and land.is_whole, True)
            over, under = parts(land)
            self.assertNotEqual(under, ZERO)
            found.append(frac(over) / frac(under))
        self.assertNotEqual(*found)

    def check_scale(self, space, one, other):
        expected = self.expected(space.room, space.told(), on(one, *CORNER), on(other, *CORNER))
        self.same(scale(space, one, other), expected)
        self.check_lands(space, scale_lands(space, one, other), expected,
                         lambda land: (land.motion(one).table.det, land.motion(other).table.det))
        return expected


class TestArea(AreaCase):
    def test_in_lands(self):
        room = Room(Sheet("s", "turned"), marks=["a", "b", "c"])
        found = oracle.land_from(room, {
            ("move", "s", 0): Fraction(5), ("move", "s", 1): Fraction(0), ("table", "s", 0): Fraction(2),
            ("table", "s", 1): Fraction(1), ("place", "a", 0): Fraction(1), ("place", "a", 1): Fraction(1),
            ("place", "b", 0): Fraction(3), ("place", "b", 1): Fraction(1), ("place", "c", 0): Fraction(0),
            ("place", "c", 1): Fraction(1, 2)})
        self.same(area(found, (A, B, C)), num(-1))
        self.same(area(land=found, triple=(A, C, B)), num(1))
        self.same(area(found, (B, C, A)), num(-1))
        self.same(area(found, (A, A, B)), ZERO)
        self.same(area(found, on("s", *CORNER)), num(5))
        self.same(area(found, on("s", ORIGIN, spot(0, 1), spot(1, 0))), num(-5))
        self.same(area(found, on("s", spot(1, 1), spot(3, 1), spot(1, "3/2"))), num(5))
        self.same(area(found.scaled((3, 1)), (A, B, C)), num(-9))
        self.same(area(found.scaled(ZERO), (A, B, C)), ZERO)

    def test_in_drawn_lands(self):
        for _ in range(60):
            room, told = self.drawn()
            base = oracle.null_base(room, told)
            values = oracle.mixed_values(self.rng, base, room)
            found = oracle.land_from(room, values)
            triple = tuple(oracle.some_point(self.rng, room) for _ in range(3))
            self.same(area(found, triple), num(area_at(room, triple, values)))
            p, q, r = triple
            self.same(area(found, (q, r, p)), area(found, triple))
            self.same(area(found, (q, p, r)), num(-area_at(room, triple, values)))

    def test_points(self):
        for space in (Space(HINGE), Space(SLANTED_TWO)):
            for land in space.base()[:2]:
                for value in ANY_VALUES + NOT_NAMES + ["a", ["mark", "a"], ("mark", "z"), ("spot", "u", ORIGIN)]:
                    if value == A:
                        continue
                    for triple in ((value, A, B), (A, value, B), (A, B, value), (value, None, None),
                                   (A, value, ("mark", "z"))):
                        self.fails(InvalidPoint, {"value": value}, area, land, triple)
                for value in NOT_SPOTS:
                    self.fails(InvalidPoint, {"value": ("spot", "s", value)}, area, land,
                               (A, ("spot", "s", value), None))


class TestQuotient(AreaCase):
    def test_in_one_sheet(self):
        space = Space(HINGE)
        for triple, expected in [((A, B, D), num(1)), ((A, M, D), num(1, 2)), ((A, D, B), num(-1)),
                                 ((M, B, D), num(1, 2)), ((A, M, B), num(0)), ((A, A, C), num(0)),
                                 ((A, B, C), None), ((C, D, A), None), (on("s", *CORNER), num(1, 2)),
                                 (on("t", *CORNER), None)]:
            self.same(self.check(space, triple, (A, B, D)), expected)
            self.same(quotient(other=(A, B, D), triple=triple, space=space), expected)

    def test_over_sheets(self):
        space = Space(EXAMPLE)
        self.same(self.check(space, on("s", *CORNER), on("t", *CORNER)), num(4))
        self.same(self.check(space, on("t", *CORNER), (A, B, C)), num(1, 4))
        free = Space(EXAMPLE.without("t", "b"))
        self.same(self.check(free, on("s", *CORNER), on("t", *CORNER)), None)

    def test_no_area(self):
        space = Space(HINGE)
        for other in ((A, A, A), (A, A, C), (A, M, B), (C, D, D)):
            for triple in ((A, B, C), (A, B, D), (A, A, A), other):
                self.same(self.check(space, triple, other), "none")
        room = Room(marks=["a", "b", "c"])
        told = Space(room, told=[("middle", A, B, C)])
        self.same(self.check(told, (A, B, B), (A, B, C)), "none")
        self.same(self.check(Space(room), (A, B, C), (B, C, A)), num(1))
        self.same(self.check(Space(room), (A, B, C), (B, A, C)), num(-1))

    def test_areas_that_crushing_lands_alone_lack(self):
        # Known in all lands, the crushing ones too, in which both areas may be 0.
        room = read_room("sheet p stretched\na 0 0\nb 2 3\nend\n").with_mark("c")
        space = Space(room)
        self.same(self.check(space, on("p", ORIGIN, spot(2, 0), spot(0, 3)), on("p", *CORNER)), num(6))
        self.same(self.check(space, (A, B, C), on("p", *CORNER)), None)
        self.same(self.check(space, (A, B, C), (A, C, B)), num(-1))

    def test_lands_beside_which_the_first_choice_fails(self):
        # Sums of two lands may lack the second area, or have the quotient of the one again.
        texts = [
            ("sheet s stretched\na 0 -1\nend\nsheet t stretched\na -1 0\nend\nmark b\nmark c\n", [],
             "b a s:-2:0", "t:-2:-1/2 s:-1:-1 b"),
            ("sheet s sized\na -1 0\nb -1 1\nc 1 1\nend\nsheet t stretched\nend\n", [],
             "c s:-1:1 t:0:1", "b c t:-1:-1"),
            ("sheet s stretched\na -1 1\nc -1 -1\nend\nmark b\n", [], "s:0:1 s:-2:1 s:1/2:-1",
             "s:-1:0 s:-2:-1 b"),
            ("sheet s sized\nend\nsheet t stretched\nc 1 0\nend\nmark a\nmark b\n",
             ["middle t:-1/2:-1/2 a s:-1/2:-2"], "t:0:0 b a", "s:1/2:1/2 a c"),
            ("sheet s turned\nend\nsheet t sized\na -1 -1\nb 0 0\nend\nmark c\n", [], "s:-1:-1 c b",
             "a s:1/2:0 s:2:2")]
        for text, told, triple, other in texts:
            room = read_room(text)
            space = Space(room, told=[read_claim(room, claim) for claim in told])
            triples = [tuple(read_point(room, word) for word in words.split()) for words in (triple, other)]
            self.assertIsNone(self.check(space, *triples))
            self.check(space, *triples[::-1])

    def test_drawn_spaces(self):
        found = {}
        for _ in range(60):
            room, told = self.standing()
            space = Space(room, told=told)
            for _ in range(3):
                triples = []
                for _ in range(2):
                    points = [oracle.some_point(self.rng, room) for _ in range(3)]
                    if self.rng.random() < 0.4:
                        name = self.rng.choice(room.names())
                        points = on(name, *[spot(self.rng.randint(-2, 2), self.rng.randint(-2, 2))
                                            for _ in range(3)])
                    triples.append(tuple(points))
                word = self.check(space, *triples)
                word = word if word in ("none", None) else "known"
                found[word] = found.get(word, 0) + 1
        for word in ("none", None, "known"):
            self.assertGreater(found[word], 5, found)

    def test_errors(self):
        good = (A, B, C)
        for space in (Space(HINGE), Space(SLANTED_TWO)):
            for value in ANY_VALUES + NOT_NAMES + [("mark", "z"), ("spot", "u", ORIGIN)]:
                if value == A:
                    continue
                for call in (quotient, quotient_lands):
                    for at in range(3):
                        triple = good[:at] + (value,) + (None, None)[at:]
                        self.fails(InvalidPoint, {"value": value}, call, space, triple, (None,) * 3)
                        self.fails(InvalidPoint, {"value": value}, call, space, good, triple)
        for room, name in ((SLANTED_TWO, "s"), (LANDWARD, "r")):
            for call in (quotient, quotient_lands):
                self.fails(NoLand, {"name": name}, call, Space(room), good, good)
                self.fails(NoLand, {"name": name}, call, Space(room), good, (A, A, A))

    def test_the_same_call_twice(self):
        space = Space(HINGE)
        self.same(quotient_lands(space, (A, B, C), (A, B, D)), quotient_lands(space, (A, B, C), (A, B, D)))


class TestScale(AreaCase):
    def test_each_pair_of_kinds(self):
        for one in KINDS:
            for other in KINDS:
                for many in (1, 2, 3):
                    room, _ = oracle.drawn(self.rng, [one, other], many, often=1)
                    space = Space(room)
                    self.check_scale(space, "s", "t")
                    self.check_scale(space, "t", "s")
                    self.same(scale(space, "s", "s"), num(1))
                    self.assertIsNone(scale_lands(space, "t", "t"))

    def test_known_scales(self):
        space = Space(EXAMPLE)
        self.same(scale(space, "s", "t"), num(4))
        self.same(scale(other="s", one="t", space=space), num(1, 4))
        free = Space(EXAMPLE.without("t", "b"))
        self.same(self.check_scale(free, "s", "t"), None)
        room = read_room("sheet s even\nend\nsheet t even\na 0 0\nend\nsheet u sized\na 0 0\nb 1 0\nend\n")
        self.same(self.check_scale(Space(room), "s", "t"), num(1))
        self.same(self.check_scale(Space(room), "s", "u"), None)
        room = room.with_reading("s", "a", ORIGIN).with_reading("s", "b", spot(-3, 0))
        self.same(self.check_scale(Space(room), "t", "u"), num(1, 9))
        # A scale that is known to be negative.
        room = read_room("sheet s turned\na 0 0\nb 1 0\nend\nsheet t mirrored\na 0 0\nb 0 2\nend\n")
        self.same(self.check_scale(Space(room), "t", "s"), num(-1, 4))
        # Two hinged sheets have none.
        self.same(self.check_scale(Space(HINGE), "s", "t"), None)
        self.same(self.check_scale(Space(HINGE.with_reading("s", "c", spot(0, 3))), "s", "t"), num(1, 6))

    def test_drawn_spaces(self):
        found = []
        for _ in range(40):
            room, told = self.standing()
            space = Space(room, told=told)
            for one in room.names():
                for other in room.names():
                    found.append(self.check_scale(space, one, other) is None)
        self.assertGreater(found.count(True), 10)
        self.assertGreater(found.count(False), 10)

    def test_errors(self):
        for space in (Space(HINGE), Space(SLANTED_TWO)):
            for value in ANY_VALUES + NOT_NAMES + ["u", "a", ("s",)]:
                for call in (scale, scale_lands):
                    self.fails(UnknownSheet, {"name": value}, call, space, value, "t")
                    self.fails(UnknownSheet, {"name": value}, call, space, "s", value)
                    self.fails(UnknownSheet, {"name": value}, call, space, value, None)
        for call in (scale, scale_lands):
            self.fails(UnknownSheet, {"name": "x"}, call, Space(HINGE), "x", "y")
            self.fails(NoLand, {"name": "s"}, call, Space(SLANTED_TWO), "s", "t")
            self.fails(NoLand, {"name": "r"}, call, Space(LANDWARD), "p", "p")

    def test_whole_lands_have_the_known_scale(self):
        space = Space(EXAMPLE)
        land = whole_land(space)
        ratio = frac(land.motion("s").table.det) / frac(land.motion("t").table.det)
        self.same(scale(space, "s", "t"), num(ratio))


if __name__ == "__main__":
    unittest.main()
