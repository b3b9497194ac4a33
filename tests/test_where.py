"""Where points are known, and the papers that show it."""

import unittest

from lostland.errors import InvalidPoint, NoLand, UnknownSheet
from lostland.lands import land_of
from lostland.rooms import Room
from lostland.sheets import Sheet
from lostland.spaces import Space
from lostland.sums import sum_plus, sum_times
from lostland.texts import read_room
from lostland.where import index_of, is_where_paper, known_on, where, where_paper
from lostland.whole import pressed, stands, whole_land
from tests import oracle
from tests.support import (
    ANY_VALUES, NOT_NAMES, NOT_SPOTS, ONE, ORIGIN, Case, frac, nested, num, some_spot, spot, table)
from tests.test_sums import NO_KEYS
from tests.test_whole import LANDWARD, SLANTED_TWO, WholeCase

A, B, C, D, M = [("mark", mark) for mark in "abcdm"]
EXAMPLE = read_room("sheet s turned\na 0 0\nb 1 0\nc 0 1\nend\nsheet t turned\na 0 0\nb 0 2\nend\n")
HINGE = read_room("sheet s slanted\na 0 0\nm 1 0\nb 2 0\nd 0 1\nend\n"
                  "sheet t slanted\na 0 0\nb 1 0\nc 0 1\nend\n")


class WhereCase(WholeCase):
    def known_spot(self, room, told, point, name):
        """The spot at which a point is known, by an elimination of the test's own."""
        base = oracle.null_base(room, told)
        space = Space(room, told=told)
        first = whole_land(space).spot(point, name)
        for axis in (0, 1):
            apart = oracle.added((1, oracle.place(room, point, axis)),
                                 (-1, oracle.place(room, ("spot", name, first), axis)))
            if any(oracle.value(apart, values) != 0 for values in base):
                return None
        return first

    def standing(self):
        while True:
            room, told = self.drawn()
            if stands(Space(room, told=told)):
                return room, told


class TestWhere(WhereCase):
    def test_the_examples(self):
        self.same(where(Space(EXAMPLE), C, on="t"), spot(-2, 0))
        self.same(where(Space(HINGE), M, on="t"), spot("1/2", 0))

    def test_read_there_and_lying_there(self):
        space = Space(HINGE)
        self.same(where(space, B, on="s"), spot(2, 0))
        self.same(where(space, ("spot", "s", spot(7, "2/3")), on="s"), spot(7, "2/3"))
        self.same(where(on="t", point=("spot", "s", spot(6, 0)), space=space), spot(3, 0))
        self.same(where(space, ("spot", "s", spot(6, 1)), on="t"), None)
        self.same(where(space, D, on="t"), None)
        self.same(where(space, C, on="s"), None)

    def test_by_told_claims(self):
        room = HINGE.with_mark("x")
        x = ("mark", "x")
        self.same(where(Space(room), x, on="s"), None)
        space = Space(room, told=[("middle", x, A, C)])
        self.same(where(space, x, on="t"), spot(0, "1/2"))
        self.same(where(space, x, on="s"), None)
        space = space.with_told(("same", C, ("spot", "s", spot(5, 6))))
        self.same(where(space, x, on="s"), spot("5/2", 3))
        self.same(where(space, D, on="t"), spot("-5/12", "1/6"))

    def test_against_an_elimination(self):
        found = []
        for _ in range(60):
            room, told = self.standing()
            space = Space(room, told=told)
            land = whole_land(space)
            index = index_of(space)
            self.same(list(index), room.marks())
            points = [("mark", mark) for mark in room.marks()]
            points += [oracle.some_point(self.rng, room) for _ in range(3)]
            for point in points:
                spots = {}
                for name in room.names():
                    expected = self.known_spot(room, told, point, name)
                    self.same(where(space, point, on=name), expected)
                    self.check_paper(space, point, name, expected)
                    found.append(expected is None)
                    if expected is not None:
                        spots[name] = expected
                        self.same(land.spot(point, name), expected)
                self.same(known_on(space, point), list(spots))
                if point[0] == "mark":
                    self.same(index[point[1]], spots)
        self.assertGreater(found.count(True), 50)
        self.assertGreater(found.count(False), 50)

    def check_paper(self, space, point, name, expected):
        paper = where_paper(space, point, on=name)
        self.assertIs(type(paper), tuple)
        self.assertIs(is_where_paper(space, point, paper, on=name), True)
        self.assertEqual(where_paper(on=name, point=point, space=space), paper)
        room, told = space.room, space.told()
        if expected is None:
            word, one, other = paper
            self.same(word, "open")
            for land in (one, other):
                self.assertIs(space.has(land) and land.is_whole, True)
            self.assertNotEqual(one.spot(point, name), other.spot(point, name))
            return
        word, found, *sums = paper
        self.same((word, found, len(sums)), ("known", expected, 2))
        for axis, total in enumerate(sums):
            apart = oracle.added((1, oracle.place(room, point, axis)),
                                 (-1, oracle.place(room, ("spot", name, found), axis)))
            self.assertEqual(oracle.multiplied_out(room, told, total), apart)

    def test_known_on(self):
        space = Space(HINGE)
        self.same(known_on(space, A), ["s", "t"])
        self.same(known_on(space, C), ["t"])
        self.same(known_on(point=D, space=space), ["s"])
        self.same(known_on(space, ("spot", "t", spot(1, 1))), ["t"])
        self.same(known_on(space, ("spot", "t", spot(9, 0))), ["s", "t"])
        self.same(known_on(Space(Room(marks=["a"])), A), [])
        self.same(known_on(Space(HINGE.with_mark("x")), ("mark", "x")), [])

    def test_index(self):
        self.same(index_of(Space(HINGE.with_mark("c").with_mark("x"))), {
            "a": {"s": ORIGIN, "t": ORIGIN}, "b": {"s": spot(2, 0), "t": spot(1, 0)},
            "c": {"t": spot(0, 1)}, "d": {"s": spot(0, 1)},
            "m": {"s": spot(1, 0), "t": spot("1/2", 0)}, "x": {}})
        self.same(index_of(space=Space(Room())), {})
        self.same(index_of(Space(Room(marks=["b", "a"]))), {"a": {}, "b": {}})

    def test_returned_dicts_and_lists_are_new(self):
        space = Space(HINGE)
        first = index_of(space)
        first["a"].clear()
        first.pop("b")
        known_on(space, A).clear()
        self.same(list(index_of(space)), ["a", "b", "c", "d", "m"])
        self.same(index_of(space)["a"], {"s": ORIGIN, "t": ORIGIN})
        self.same(known_on(space, A), ["s", "t"])


class TestErrors(WhereCase):
    def test_no_point(self):
        pressing = Space(SLANTED_TWO)
        for space in (Space(HINGE), pressing):
            for value in ANY_VALUES + NOT_NAMES + ["a", "s", ["mark", "a"], ("mark", "z"),
                                                   ("spot", "u", ORIGIN), ("spot", "a", ORIGIN)]:
                if value == A:
                    continue
                told = {"value": value}
                self.fails(InvalidPoint, told, where, space, value, on="s")
                self.fails(InvalidPoint, told, where, space, value, on=None)
                self.fails(InvalidPoint, told, known_on, space, value)
                self.fails(InvalidPoint, told, where_paper, space, value, on=None)
                self.fails(InvalidPoint, told, is_where_paper, space, value, None, on=None)
            for value in NOT_SPOTS:
                self.fails(InvalidPoint, {}, where, space, ("spot", "s", value), on="s")

    def test_no_sheet(self):
        for space in (Space(HINGE), Space(SLANTED_TWO)):
            for value in ANY_VALUES + NOT_NAMES + ["u", "a", "st", ["s"], ("s",)]:
                told = {"name": value}
                self.fails(UnknownSheet, told, where, space, A, on=value)
                self.fails(UnknownSheet, told, where_paper, space, A, on=value)
                self.fails(UnknownSheet, told, is_where_paper, space, A, None, on=value)

    def test_no_land(self):
        for room in (SLANTED_TWO, LANDWARD):
            space = Space(room)
            told = {"name": pressed(space)[0]}
            name = room.names()[0]
            self.fails(NoLand, told, where, space, A, on=name)
            self.fails(NoLand, told, where, space, ("spot", name, ORIGIN), on=name)
            self.fails(NoLand, told, known_on, space, A)
            self.fails(NoLand, told, index_of, space)
            self.fails(NoLand, told, where_paper, space, A, on=name)
        self.fails(NoLand, {"name": "r"}, index_of, Space(LANDWARD))
        self.fails(NoLand, {"name": "s"}, index_of, Space(
            HINGE, told=[("same", A, B)]))

    def test_a_call_that_raises_changes_nothing(self):
        space = Space(HINGE)
        before = where_paper(space, M, on="t")
        for point, name in ((None, "t"), (M, "u"), (M, None)):
            with self.assertRaises(Exception):
                where(space, point, on=name)
        self.same(where_paper(space, M, on="t")[1:], before[1:])


class TestIsWherePaper(WhereCase):
    def test_right_papers(self):
        space = Space(HINGE)
        paper = where_paper(space, M, on="t")
        self.assertIs(is_where_paper(on="t", value=paper, point=M, space=space), True)
        self.assertIs(is_where_paper(space, A, ("known", ORIGIN, *where_paper(space, A, on="t")[2:]),
                                     on="t"), True)
        self.assertIs(is_where_paper(space, ("spot", "s", spot(3, 4)),
                                     ("known", spot(3, 4), (), ()), on="s"), True)
        # Any two whole lands in which the spots differ are right.
        word, one, other = where_paper(space, C, on="s")
        self.assertIs(is_where_paper(space, C, (word, other, one), on="s"), True)
        self.assertIs(is_where_paper(space, C, (word, one.scaled((2, 1)), other.scaled((-3, 5))),
                                     on="s"), True)

    def test_other_sums_with_the_same_form(self):
        space = Space(EXAMPLE, told=[("same", A, A), ("same", C, ("spot", "t", spot(-2, 0)))])
        paper = where_paper(space, C, on="t")
        spare = sum_plus(((("told", 1, 0), (-1, 1)),), paper[2])
        for more in (((("told", 0, 1), (7, 2)),), spare):
            for at in (2, 3):
                other = paper[:at] + (sum_plus(paper[at], more),) + paper[at + 1:]
                right = oracle.multiplied_out(EXAMPLE, space.told(), more) == {}
                self.assertIs(is_where_paper(space, C, other, on="t"), right)
        self.assertEqual(oracle.multiplied_out(EXAMPLE, space.told(), ((("told", 0, 1), (7, 2)),)), {})

    def test_bent_known_papers(self):
        space = Space(HINGE)
        for point, name in ((M, "t"), (A, "t"), (B, "s"), (("spot", "s", spot(4, 0)), "t")):
            paper = where_paper(space, point, on=name)
            self.same(paper[0], "known")
            for at in range(4):
                for value in ANY_VALUES + NOT_NAMES + NOT_SPOTS:
                    if value != paper[at]:
                        bent = paper[:at] + (value,) + paper[at + 1:]
                        self.assertIs(is_where_paper(space, point, bent, on=name), False, bent)
            for at in (2, 3):
                key = self.rng.choice([key for key, _ in oracle.rows(HINGE)])
                bents = [sum_plus(paper[at], ((key, ONE),)), list(paper[at]), (paper[at],), None]
                bents += [paper[at] + ((one, ONE),) for one in NO_KEYS if one[:1] != ("reading",)]
                if paper[at]:
                    bents += [sum_times(paper[at], (2, 1)), paper[at][:-1], paper[at][::-1] + ((),)]
                for total in bents:
                    bent = paper[:at] + (total,) + paper[at + 1:]
                    self.assertIs(is_where_paper(space, point, bent, on=name), False, bent)
            x, y = paper[1]
            for other in (spot(9, 9), (x, num(frac(y) + 1)), (num(frac(x) + 1), y), list(paper[1])):
                bent = (paper[0], other) + paper[2:]
                self.assertIs(is_where_paper(space, point, bent, on=name), False)
            for bent in (list(paper), paper[:3], paper + ((),), ("open",) + paper[1:],
                         ("Known",) + paper[1:], (paper,), paper[:2] + (paper[3], paper[2])):
                self.assertIs(is_where_paper(space, point, bent, on=name),
                              bent == paper, bent)

    def test_bent_open_papers(self):
        space = Space(HINGE)
        word, one, other = where_paper(space, C, on="s")
        self.same(word, "open")
        zero = one.scaled((0, 1))
        away = land_of(Room(*reversed(HINGE.sheets())), places={
            mark: one.place(("mark", mark)) for mark in HINGE.marks()},
            tables={name: one.motion(name).table for name in "st"},
            moves={name: one.motion(name).move for name in "st"})
        crushing = [land for land in space.base() if not land.is_whole][0]
        for first, second in [(one, one), (one, zero), (zero, other), (zero, zero), (one, away),
                              (away, other), (away, away), (one, crushing), (one, None), (None, one),
                              (one, space), (one, one + one)]:
            self.assertIs(is_where_paper(space, C, ("open", first, second), on="s"), False)
        for value in ANY_VALUES + NOT_NAMES:
            for bent in (("open", value, other), ("open", one, value), (value, one, other)):
                self.assertIs(is_where_paper(space, C, bent, on="s"), False)
        for bent in ([word, one, other], (word, one), (word, one, other, other), (word, [one, other]),
                     ("known", one, other), ("Open", one, other), (word,), ((word, one, other),)):
            self.assertIs(is_where_paper(space, C, bent, on="s"), False)
        # The lands must be those of the space with its told claims.
        told = space.with_told(("same", C, ("spot", "s", spot(3, 3))))
        self.assertIs(is_where_paper(told, C, (word, one, other), on="s"), False)
        self.assertIs(is_where_paper(told, D, (word, one, other), on="s"), False)
        # The spots of the very point on the very sheet must differ.
        self.assertIs(is_where_paper(space, C, (word, one, other), on="t"), False)
        self.assertIs(is_where_paper(space, M, (word, one, other), on="s"), False)

    def test_any_value(self):
        for space in (Space(HINGE), Space(SLANTED_TWO), Space(HINGE, told=[("same", A, B)])):
            for value in ANY_VALUES + NOT_NAMES + [("known",), ("open",), nested(9, ("open", A, B)),
                                                   ("known", ORIGIN), ("open", None, None)]:
                self.assertIs(is_where_paper(space, C, value, on="s"), False)

    def test_in_a_space_that_does_not_stand(self):
        space = Space(SLANTED_TWO)
        for point, name, place in [(A, "s", ORIGIN), (A, "t", ORIGIN), (B, "t", spot(1, 0)),
                                   (D, "t", spot(1, 2)), (("spot", "s", spot(5, 5)), "s", spot(5, 5))]:
            sums = []
            for axis in (0, 1):
                form = oracle.as_form(oracle.added(
                    (1, oracle.place(SLANTED_TWO, point, axis)),
                    (-1, oracle.place(SLANTED_TWO, ("spot", name, place), axis))))
                sums.append(space.sum_for(form))
            paper = ("known", place, *sums)
            self.assertIs(is_where_paper(space, point, paper, on=name), True)
            self.assertIs(is_where_paper(space, point, ("known", spot(8, 8), *sums), on=name), False)
        lands = [land for land in space.base()]
        for one in lands:
            for other in lands:
                self.assertIs(is_where_paper(space, C, ("open", one, other), on="s"), False)

    def test_papers_of_drawn_spaces_for_other_points(self):
        for _ in range(25):
            room, told = self.standing()
            space = Space(room, told=told)
            points = [("mark", mark) for mark in room.marks()]
            papers = [(point, name, where_paper(space, point, on=name))
                      for point in points for name in room.names()]
            for point, name, paper in papers:
                for other in points:
                    right = is_where_paper(space, other, paper, on=name)
                    if paper[0] == "open":
                        self.assertIs(right, paper[1].spot(other, name) != paper[2].spot(other, name))
                    elif right:
                        self.same(where(space, other, on=name), paper[1])

    def test_lands_of_a_free_choice(self):
        room = Room(Sheet("s", "sized"), marks=["a"])
        space = Space(room)
        lands = [land_of(room, tables={"s": table(a, 0, 0, a)}, moves={"s": some_spot(self.rng)},
                         places={"a": some_spot(self.rng)}) for a in (-1, 0, 1, 2) for _ in range(3)]
        for one in lands:
            for other in lands:
                right = (one.is_whole and other.is_whole
                         and one.spot(A, "s") != other.spot(A, "s"))
                self.assertIs(is_where_paper(space, A, ("open", one, other), on="s"), right)


if __name__ == "__main__":
    unittest.main()
