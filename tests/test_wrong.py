"""Suspects, the fewest wrong readings, apart papers, and mended readings."""

from itertools import combinations, islice
import unittest

from lostland.errors import InvalidNumber, NoLand, Stands, UnknownReading, UnknownSheet
from lostland.presses import crushed_paper, is_crushed_paper
from lostland.rooms import Room
from lostland.sheets import Sheet
from lostland.spaces import Space
from lostland.texts import read_room
from lostland.whole import pressed, stands
from lostland.wrong import apart_papers, fewest, mended, suspects
from tests import oracle, papers
from tests.support import ANY_VALUES, NOT_NAMES, ORIGIN, num, some_spot, spot
from tests.test_spare import MANY
from tests.test_where import EXAMPLE, HINGE
from tests.test_whole import APART, LANDWARD, SLANTED_TWO, WholeCase

A, B, C = [("mark", mark) for mark in "abc"]
NOT_NUMBERS = [-1, 4, 5, True, False, None, "1", (1,), [2], 10 ** 199, (1, 1), ("most",)]


def stands_without(room, told, pairs):
    for name, mark in pairs:
        room = room.without(name, mark)
    return not oracle.pressed_names(room, told)


class WrongCase(WholeCase):
    def wronged(self, wrong):
        """A drawn space, some of whose readings were put elsewhere."""
        room, land = oracle.drawn(self.rng, oracle.some_kinds(self.rng, self.rng.randint(2, 3)), 4, often=0.9)
        told = [oracle.true_plain(self.rng, room, land) for _ in range(self.rng.randint(0, 1))]
        readings = room.readings()
        for name, mark in self.rng.sample(readings, min(wrong, len(readings))):
            room = room.with_reading(name, mark, some_spot(self.rng, 9))
        return Space(room, told=told)

    def brute(self, space, most):
        """The fewest readings by trying all lists, by size and then by places."""
        order = space.room.readings()
        for size in range(most + 1):
            for pairs in combinations(order, size):
                if stands_without(space.room, space.told(), pairs):
                    return list(pairs)
        return None


class TestSuspects(WrongCase):
    def test_known_rooms(self):
        self.same(suspects(Space(SLANTED_TWO)), SLANTED_TWO.readings())
        self.same(suspects(space=Space(LANDWARD)), [(n, m) for n, m in LANDWARD.readings() if m != "x"])
        wrong = Space(MANY.with_reading("s", "c", spot(5, 5)))
        # Each two of the three readings of s are right for another sheet s.
        self.same(suspects(wrong), [("s", "a"), ("s", "b"), ("s", "c")])
        wrong = Space(EXAMPLE.with_reading("t", "c", spot(-1, 0)))
        self.same(suspects(wrong), EXAMPLE.readings()[:3] + [("t", "a"), ("t", "b"), ("t", "c")])
        # A reading that is not in the circle of the others.
        room = EXAMPLE.with_reading("t", "c", spot(-1, 0)).with_reading("s", "d", spot(3, 3))
        self.same(suspects(Space(room)), EXAMPLE.readings()[:3] + [("t", "a"), ("t", "b"), ("t", "c")])
        flat = Space(Room(Sheet("s", "even")), told=[("same", ("spot", "s", ORIGIN), ("spot", "s", spot(1, 0)))])
        self.same(suspects(flat), [])
        suspects(wrong).clear()
        self.same(len(suspects(wrong)), 6)

    def test_drawn_spaces(self):
        found = []
        for _ in range(50):
            space = self.wronged(self.rng.randint(0, 2))
            room, told = space.room, space.told()
            if stands(space):
                self.fails(Stands, {}, suspects, space)
                continue
            expected = [pair for pair in room.readings() if stands_without(room, told, [pair])]
            self.same(suspects(space), expected)
            found.append(len(expected))
        self.assertGreater(len([many for many in found if many > 0]), 5)
        self.assertIn(0, found)

    def test_one_wrong_reading_is_a_suspect(self):
        for _ in range(30):
            room, _ = oracle.drawn(self.rng, oracle.some_kinds(self.rng, 3), 4, often=0.9)
            name, mark = self.rng.choice(room.readings())
            space = Space(room.with_reading(name, mark, some_spot(self.rng, 9)))
            if not stands(space):
                self.assertIn((name, mark), suspects(space))

    def test_spaces_that_stand(self):
        for space in (Space(Room()), Space(HINGE), Space(EXAMPLE), Space(MANY)):
            self.fails(Stands, {}, suspects, space)


class TestFewest(WrongCase):
    def test_known_rooms(self):
        self.same(fewest(Space(SLANTED_TWO)), [("s", "a")])
        self.same(fewest(Space(HINGE)), [])
        self.same(fewest(Space(HINGE), most=0), [])
        self.same(fewest(Space(Room())), [])
        self.same(fewest(most=1, space=Space(APART)), [("s", "a")])
        self.assertIsNone(fewest(Space(SLANTED_TWO), most=0))
        wrong = MANY.with_reading("s", "c", spot(5, 5))
        self.same(fewest(Space(wrong)), [("s", "a")])
        two = wrong.with_reading("u", "a", spot(9, 9))
        self.same(fewest(Space(two)), self.brute(Space(two), 2))
        self.assertIsNone(fewest(Space(two), most=1))
        flat = Space(Room(Sheet("s", "even")), told=[("same", ("spot", "s", ORIGIN), ("spot", "s", spot(1, 0)))])
        for most in range(4):
            self.assertIsNone(fewest(flat, most=most))

    def test_most_is_two_if_it_is_left_out(self):
        # Three pairs of even sheets that disagree, each by a mark of its own.
        sheets = []
        for at, (name, marks) in enumerate(zip("stu", ["ab", "cd", "ef"])):
            for word in (name, name + name):
                size = 1 if len(word) == 1 else 2
                sheets.append(Sheet(word, "turned", [(marks[0], ORIGIN), (marks[1], spot(size, 0))]))
        sheets.append(Sheet("z", "even"))
        for many in (1, 2, 3):
            told = []
            for name, (one, other) in zip("stu"[:many], ["ab", "cd", "ef"]):
                # Both sheets have one scale, so that one of the readings must go.
                told.append(("same", ("spot", name, spot(1, 1)), ("spot", name + name, spot(1, 1))))
            space = Space(Room(*sheets), told=told)
            self.assertIs(stands(space), False)
            expected = self.brute(space, 2)
            self.same(fewest(space), expected)
            self.same(fewest(space, most=2), expected)
            self.assertEqual(expected is None, many == 3)
            self.assertEqual(len(fewest(space, most=3)), many)

    def test_drawn_spaces(self):
        found = {}
        for at in range(44):
            space = self.wronged(self.rng.randint(0, 3))
            most = 3 if at < 4 else self.rng.randint(0, 2)
            expected = self.brute(space, most)
            chosen = fewest(space, most=most)
            self.same(chosen, expected)
            if most == 2:
                self.same(fewest(space), expected)
            key = None if expected is None else len(expected)
            found[key] = found.get(key, 0) + 1
            if expected:
                # Of each apart paper at least one reading goes.
                for paper in apart_papers(space):
                    self.assertTrue(set(expected) & self.readings_of(paper))
        for key in (None, 0, 1, 2):
            self.assertGreater(found.get(key, 0), 1, found)

    def readings_of(self, paper):
        return {key[1:3] for total in paper[4:] for key, _ in total if key[0] == "reading"}

    def test_many_sheets(self):
        room, _ = oracle.drawn(self.rng, ["turned", "slanted", "sized", "turned", "stretched"], 8, often=1)
        room = room.with_reading("s", "c", spot(50, 71)).with_reading("w", "h", spot(31, -7))
        found = fewest(Space(room))
        self.same(found, [("s", "c"), ("w", "h")])

    def test_no_number(self):
        for space in (Space(HINGE), Space(SLANTED_TWO)):
            for value in NOT_NUMBERS + [value for value in ANY_VALUES if value not in (0, 1) or value is True]:
                if type(value) is int and 0 <= value <= 3:
                    continue
                self.fails(InvalidNumber, {"value": value}, fewest, space, most=value)
            with self.assertRaises(TypeError):
                fewest(space, 2)


class TestApartPapers(WrongCase):
    def check(self, space):
        room, told = space.room, space.told()
        found = list(apart_papers(space))
        self.assertEqual([repr(one) for one in apart_papers(space)], [repr(one) for one in found])
        self.same(found == [], stands(space))
        struck = []
        for at, paper in enumerate(found):
            self.assertFalse(stands_without(room, told, struck))
            self.assertIs(is_crushed_paper(space, paper), True)
            self.assertTrue(papers.is_crushed_paper(room, told, paper))
            pairs = TestFewest.readings_of(self, paper)
            self.assertFalse(pairs & set(struck))
            struck += sorted(pairs)
            if not pairs:
                self.same(at, len(found) - 1)
        if found and pairs:
            self.assertTrue(stands_without(room, told, struck))
        return found

    def test_known_rooms(self):
        self.same(self.check(Space(HINGE)), [])
        self.same(self.check(Space(Room())), [])
        self.same(len(self.check(Space(SLANTED_TWO))), 1)
        told = [("same", ("spot", "s", ORIGIN), ("spot", "s", spot(1, 0)))]
        found = self.check(Space(Room(Sheet("s", "even", [("a", ORIGIN)])), told=told))
        self.same(len(found), 1)
        two = Room(*APART.sheets(), *[Sheet(name, "turned", [(mark.replace("a", "c").replace("b", "d"), place)
                                                             for mark, place in APART.sheet(own).readings()])
                                      for name, own in zip("uv", "st")])
        # Each pair disagrees on its own, the turned ones with a claim on their scale.
        told = [("same", ("spot", "u", ORIGIN), ("spot", "v", ORIGIN)),
                ("same", ("spot", "u", spot(1, 1)), ("spot", "v", spot(1, 1)))]
        found = self.check(Space(two, told=told))
        self.same(len(found), 2)

    def test_papers_end_with_one_that_has_no_rows_of_readings(self):
        told = [("same", ("spot", "t", ORIGIN), ("spot", "t", spot(1, 0)))]
        space = Space(APART, told=told)
        found = self.check(space)
        self.assertLessEqual(len(found), 2)
        self.same(TestFewest.readings_of(self, found[-1]), set())

    def test_drawn_spaces(self):
        many = []
        for _ in range(60):
            many.append(len(self.check(self.wronged(self.rng.randint(0, 4)))))
        self.assertIn(0, many)
        self.assertIn(1, many)
        self.assertGreater(max(many), 1)

    def test_one_by_one(self):
        space = Space(SLANTED_TWO)
        self.same(list(islice(apart_papers(space=space), 1)), [crushed_paper(space)])


class TestMended(WrongCase):
    def test_known_rooms(self):
        space = Space(EXAMPLE.with_reading("t", "c", spot(-1, 0)))
        self.same(mended(space, "t", "c"), spot(-2, 0))
        self.same(mended(mark="c", name="s", space=space), spot(0, "1/2"))
        self.assertIsNone(mended(Space(EXAMPLE), "s", "c"))
        self.same(mended(Space(MANY), "u", "a"), spot(0, 1))
        self.same(mended(Space(SLANTED_TWO), "t", "a"), spot(0, -1))

    def test_drawn_spaces(self):
        found = []
        for _ in range(40):
            space = self.wronged(self.rng.randint(0, 1))
            room, told = space.room, space.told()
            for name, mark in room.readings():
                less = Space(room.without(name, mark), told=told)
                if not stands(less):
                    self.fails(NoLand, {"name": pressed(less)[0]}, mended, space, name, mark)
                    continue
                known = mended(space, name, mark)
                found.append(known is None)
                if known is not None:
                    more = less.with_reading(name, mark, known)
                    self.assertEqual(more, less)
                    self.assertIs(stands(more), True)
                    away = (num(known[0][0] + 1, known[0][1]), known[1])
                    self.assertIs(stands(less.with_reading(name, mark, away)), False)
                else:
                    for place in (ORIGIN, spot(3, 5)):
                        self.assertNotEqual(less.with_reading(name, mark, place), less)
        self.assertGreater(found.count(True), 10)
        self.assertGreater(found.count(False), 10)

    def test_errors(self):
        for space in (Space(HINGE), Space(SLANTED_TWO)):
            for value in ANY_VALUES + NOT_NAMES + ["u", "a", ("s",)]:
                self.fails(UnknownSheet, {"name": value}, mended, space, value, "a")
                self.fails(UnknownSheet, {"name": value}, mended, space, value, None)
            for value in ANY_VALUES + NOT_NAMES + ["x", "s", ("a",), ("mark", "a")]:
                if value != "a":
                    self.fails(UnknownReading, {"name": "s", "mark": value}, mended, space, "s", value)
        # The sheet that is pressed without the reading counts, not one that is pressed with it.
        room = Room(*SLANTED_TWO.sheets(), *[sheet.named(name) for sheet, name in
                                             zip(APART.sheets(), ("x", "y"))])
        space = Space(room)
        self.same(pressed(space)[0], "s")
        self.fails(NoLand, {"name": "x"}, mended, Space(Room(*room.sheets()[2:])).with_reading("x", "c", ORIGIN), "x", "c")
        self.fails(NoLand, {"name": "s"}, mended, space, "x", "a")


if __name__ == "__main__":
    unittest.main()
