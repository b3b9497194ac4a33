"""Spare readings and stripped spaces."""

import unittest

from lostland.errors import UnknownReading, UnknownSheet
from lostland.rooms import Room
from lostland.sheets import Sheet
from lostland.spaces import Space
from lostland.spare import is_spare, spare, spare_sums, stripped
from lostland.texts import read_room
from lostland.where import where
from lostland.whole import stands
from tests import oracle, papers
from tests.support import ANY_VALUES, NOT_NAMES, ORIGIN, Case, nested, num, spot
from tests.test_judging import JudgeCase
from tests.test_where import EXAMPLE, HINGE
from tests.test_whole import SLANTED_TWO, WholeCase

# Three turned sheets, each of which has more than enough of the others.
MANY = read_room("sheet s turned\na 0 0\nb 1 0\nc 0 1\nend\nsheet t turned\na 0 0\nb 0 2\nc -2 0\nend\n"
                 "sheet u turned\nc 1 1\nb 0 0\na 0 1\nend\nmark x\n")


def is_spare_there(room, told, name, mark):
    """Whether a reading is spare, by an elimination of the test's own."""
    rows = oracle.rows(room, told)
    own = [terms for key, terms in rows if key[:3] == ("reading", name, mark)]
    rest = [terms for key, terms in rows if key[:3] != ("reading", name, mark)]
    return oracle.rank(rest) == oracle.rank(rest + own)


class SpareCase(WholeCase):
    def drawn_more(self):
        """A drawn space in which many readings are spare."""
        if self.rng.random() < 0.3:
            return self.drawn()
        many = self.rng.randint(1, 4)
        room, land = oracle.drawn(self.rng, oracle.some_kinds(self.rng, many), self.rng.randint(2, 5), 1, 0.8)
        return room, [oracle.true_plain(self.rng, room, land) for _ in range(self.rng.randint(0, 2))]

    def check_sums(self, space, name, mark):
        """The sums have the forms of the rows of the reading, over the other rows alone."""
        room, told = space.room, space.told()
        found = spare_sums(space, name, mark)
        self.assertEqual(found is not None, is_spare_there(room, told, name, mark))
        if found is None:
            return
        self.assertIs(type(found), tuple)
        self.same(len(found), 2)
        less = room.without(name, mark)
        rows = dict(oracle.rows(room, told))
        for axis, total in enumerate(found):
            self.assertEqual(papers.form_of_sum(less, told, total), rows["reading", name, mark, axis])
            self.assertNotIn((name, mark), [key[1:3] for key, _ in total])
        self.same(spare_sums(name=name, mark=mark, space=space), found)


class TestSpare(SpareCase):
    def test_known_rooms(self):
        self.same(spare(Space(EXAMPLE)), [])
        self.same(spare(Space(HINGE)), [])
        every = [(name, mark) for name, mark in MANY.readings()]
        self.same(spare(space=Space(MANY)), every)
        less = MANY.without("u", "b")
        # A sheet with two readings needs both.
        self.same(spare(Space(less)), less.readings()[:6])
        self.same(spare(Space(less.without("t", "c"))), [])
        self.same(spare(Space(Room())), [])
        self.same(spare(Space(Room(Sheet("s", "even"), marks=["a"]))), [])
        # A mark that only one sheet reads is never spare without a claim.
        told = [("same", ("mark", "c"), ("spot", "s", spot(0, 1)))]
        self.same(spare(Space(EXAMPLE, told=told)), [("s", "c")])
        self.assertIs(is_spare(Space(EXAMPLE, told=told), "s", "c"), True)
        self.assertIs(is_spare(Space(EXAMPLE, told=told), mark="a", name="s"), False)

    def test_drawn_spaces(self):
        found = []
        for _ in range(70):
            room, told = self.drawn_more()
            space = Space(room, told=told)
            expected = [(name, mark) for name, mark in room.readings() if is_spare_there(room, told, name, mark)]
            self.same(spare(space), expected)
            for name, mark in room.readings():
                right = (name, mark) in expected
                self.assertIs(is_spare(space, name, mark), right)
                found.append(right)
                self.check_sums(space, name, mark)
                if stands(space):
                    known = where(space.without(name, mark), ("mark", mark), on=name)
                    self.assertIs(known is not None, right)
                    if right:
                        self.same(known, room.sheet(name).spot(mark))
        self.assertGreater(found.count(True), 60)
        self.assertGreater(found.count(False), 60)

    def test_returned_lists_are_new(self):
        space = Space(MANY)
        spare(space).clear()
        self.same(len(spare(space)), 9)

    def test_errors(self):
        for space in (Space(HINGE), Space(SLANTED_TWO)):
            for value in ANY_VALUES + NOT_NAMES + ["u", "a", ("s",)]:
                for call in (is_spare, spare_sums):
                    self.fails(UnknownSheet, {"name": value}, call, space, value, "a")
                    self.fails(UnknownSheet, {"name": value}, call, space, value, None)
            for value in ANY_VALUES + NOT_NAMES + ["x", "s", ("a",), ("mark", "a")]:
                if value != "a":
                    for call in (is_spare, spare_sums):
                        self.fails(UnknownReading, {"name": "s", "mark": value}, call, space, "s", value)
        self.fails(UnknownReading, {"name": "s", "mark": "c"}, is_spare, Space(HINGE), "s", "c")
        self.fails(UnknownReading, {"name": "u", "mark": "x"}, spare_sums, Space(MANY), "u", "x")


class TestStripped(SpareCase):
    def expected(self, room, told, order):
        """The readings that stay, by going through the order with the test's own elimination."""
        for at, (name, mark) in enumerate(order):
            if (name, mark) not in order[:at] and is_spare_there(room, told, name, mark):
                room = room.without(name, mark)
        return room

    def check(self, space, order=None):
        every = space.room.readings()
        found = stripped(space, order) if order is not None else stripped(space)
        self.assertIs(type(found), Space)
        room = self.expected(space.room, space.told(), every if order is None else order)
        self.assertEqual(found.room, room)
        self.same(found.told(), space.told())
        self.assertEqual(found, space)
        self.same([found.rank, found.freedoms], [space.rank, space.freedoms])
        left = spare(found)
        for pair in every if order is None else order:
            self.assertNotIn(pair, left)
        return found

    def test_in_the_order_of_the_readings(self):
        found = self.check(Space(MANY))
        self.same(found.room.readings(), [("s", "b"), ("s", "c"), ("t", "b"), ("t", "c"), ("u", "c"), ("u", "b"), ("u", "a")])
        self.assertEqual(stripped(space=Space(MANY), order=None).room, found.room)
        self.assertEqual(found.room.marks(), MANY.marks())
        self.assertEqual(stripped(found).room, found.room)
        self.assertEqual(stripped(Space(EXAMPLE)).room, EXAMPLE)
        self.assertEqual(stripped(Space(Room())).room, Room())

    def test_in_other_orders(self):
        order = MANY.readings()[::-1]
        found = self.check(Space(MANY), order)
        self.same(found.room.readings(), [("s", "a"), ("s", "b"), ("s", "c"), ("t", "a"), ("t", "b"), ("u", "c"), ("u", "b")])
        self.assertEqual(stripped(Space(MANY), tuple(order)).room, found.room)
        self.assertEqual(stripped(order=order, space=Space(MANY)).room, found.room)
        self.assertEqual(stripped(Space(MANY), []).room, MANY)
        self.same(self.check(Space(MANY), [("u", "b"), ("u", "c")]).room.sheet("u").marks(), ["c", "a"])

    def test_pairs_that_stand_ahead_are_passed_by(self):
        # A reading that was left out is no reading any more when it comes again.
        order = [("s", "a"), ("s", "a"), ("u", "b"), ("s", "a"), ("u", "b"), ("s", "b")]
        found = self.check(Space(MANY), order)
        self.assertEqual(found.room, stripped(Space(MANY), [("s", "a"), ("u", "b"), ("s", "b")]).room)
        # One that was not spare at its turn is not tried again; it is not spare later either.
        order = [("s", "a"), ("s", "b"), ("s", "c"), ("t", "a"), ("s", "a"), ("t", "a")]
        self.check(Space(MANY), order)

    def test_drawn_spaces_and_orders(self):
        less = 0
        for _ in range(50):
            room, told = self.drawn_more()
            space = Space(room, told=told)
            less += len(self.check(space).room.readings()) < len(room.readings())
            order = room.readings()
            self.rng.shuffle(order)
            self.check(space, order)
            if order:
                self.check(space, [self.rng.choice(order) for _ in range(2 * len(order))])
        self.assertGreater(less, 20)

    def test_arguments_stay(self):
        order = [("s", "a"), ("s", "a")]
        space = Space(MANY)
        stripped(space, order)
        self.same(order, [("s", "a"), ("s", "a")])
        self.assertEqual(space.room, MANY)
        with self.assertRaises(UnknownReading):
            stripped(space, order + [("s", "x")])
        self.assertEqual(space.room, MANY)

    def test_no_reading(self):
        for space in (Space(MANY), Space(SLANTED_TWO)):
            for value in ANY_VALUES + NOT_NAMES:
                for pair in ((value, "a"), ("s", value), (value, value)):
                    if pair == ("s", "a"):
                        continue
                    told = {"name": pair[0], "mark": pair[1]}
                    self.fails(UnknownReading, told, stripped, space, [pair])
                    self.fails(UnknownReading, told, stripped, space, [("s", "a"), pair, (None, None)])
                    self.fails(UnknownReading, told, stripped, space, (("s", "a"), ("s", "a"), pair))
        self.fails(UnknownReading, {"name": "a", "mark": "s"}, stripped, Space(MANY), [("a", "s"), ("x", "y")])
        self.fails(UnknownReading, {"name": "s", "mark": "x"}, stripped, Space(MANY), [("s", "x")])
        self.fails(UnknownReading, {"name": nested(6), "mark": "x"}, stripped, Space(MANY), [(nested(6), "x")])
        self.fails(UnknownReading, {"name": "s", "mark": "a"}, stripped, Space(Room()), [("s", "a")])


class TestReadingsThatFollow(JudgeCase):
    def test_put_in_and_taken_out(self):
        for _ in range(25):
            room, told = self.standing()
            space = Space(room, told=told)
            for name in room.names():
                for mark in room.marks():
                    known = where(space, ("mark", mark), on=name)
                    if known is None or mark in room.sheet(name):
                        continue
                    more = space.with_reading(name, mark, known)
                    self.assertEqual(more, space)
                    self.assertIs(is_spare(more, name, mark), True)
                    self.assertIn((name, mark), spare(more))
                    away = (num(known[0][0] + known[0][1], known[0][1]), known[1])
                    wrong = space.with_reading(name, mark, away)
                    self.assertIs(stands(wrong), False)


class TestNothing(Case):
    def test_a_reading_of_a_sheet_alone(self):
        room = Room(Sheet("s", "sized", [("a", ORIGIN)]))
        self.assertIsNone(spare_sums(Space(room), "s", "a"))
        told = [("same", ("mark", "a"), ("spot", "s", ORIGIN))]
        found = spare_sums(Space(room, told=told), "s", "a")
        self.same(found, (((("told", 0, 0), (-1, 1)),), ((("told", 0, 1), (-1, 1)),)))


if __name__ == "__main__":
    unittest.main()
