"""Kinds, their tables and their own numbers."""

from itertools import product
import unittest

from lostland.kinds import (
    KINDS, fits, is_free_kind, is_kind, is_narrower, own_count, own_numbers, stays, table_of)
from lostland.tables import Table
from tests.support import (
    ANY_VALUES, BIG, NOT_KINDS, Case, num, some_fraction, table)

ALL = ("slanted", "turned", "mirrored", "stretched", "sized", "even")
COUNTS = {"slanted": 4, "turned": 2, "mirrored": 2, "stretched": 2, "sized": 1, "even": 1}
FITTING = {
    "slanted": lambda a, b, c, d: True,
    "turned": lambda a, b, c, d: a == d and b == negated(c),
    "mirrored": lambda a, b, c, d: a == negated(d) and b == c,
    "stretched": lambda a, b, c, d: b == c == (0, 1),
    "sized": lambda a, b, c, d: b == c == (0, 1) and a == d,
    "even": lambda a, b, c, d: b == c == (0, 1) and a == d,
}
NARROWER = {
    "slanted": ("slanted",),
    "turned": ("slanted", "turned"),
    "mirrored": ("slanted", "mirrored"),
    "stretched": ("slanted", "stretched"),
    "sized": ("slanted", "turned", "stretched", "sized"),
    "even": ("slanted", "turned", "stretched", "sized", "even"),
}


def negated(one):
    return (-one[0], one[1])


def grid():
    """Many small tables, and some others."""
    tables = [table(*entries) for entries in product((-1, 0, 1, 2), repeat=4)]
    tables.append(table("1/2", "-3/4", "3/4", "1/2"))
    tables.append(table("1/2", "3/4", "3/4", "-1/2"))
    tables.append(table(BIG, 1, -1, BIG))
    return tables


def expected_table(kind, numbers):
    if kind == "slanted":
        return Table(*numbers)
    a, c = numbers[0], numbers[-1]
    if kind == "turned":
        return Table(a, negated(c), c, a)
    if kind == "mirrored":
        return Table(a, c, c, negated(a))
    return Table(a, (0, 1), (0, 1), c)


class TestKinds(Case):
    def test_kinds(self):
        self.same(KINDS, ALL)

    def test_is_kind(self):
        for kind in ALL:
            self.assertIs(is_kind(kind), True)
        for value in NOT_KINDS + ANY_VALUES:
            self.assertIs(is_kind(value), False, value)
        self.assertIs(is_kind(value="even"), True)

    def test_free_kinds(self):
        for kind in ALL:
            self.assertIs(is_free_kind(kind), kind in ("slanted", "turned", "mirrored"))
        self.assertIs(is_free_kind(kind="sized"), False)

    def test_own_count(self):
        for kind in ALL:
            self.same(own_count(kind), COUNTS[kind])
        self.same(own_count(kind="even"), 1)

    def test_table_of_and_the_numbers_back(self):
        for kind in ALL:
            for _ in range(20):
                numbers = [some_fraction(self.rng) for _ in range(COUNTS[kind])]
                made = table_of(kind, numbers)
                self.assertEqual(made, expected_table(kind, numbers))
                self.assertEqual(table_of(kind, tuple(numbers)), made)
                self.same(own_numbers(kind, made), numbers)
                self.assertIs(fits(kind, made), True)

    def test_tables_by_hand(self):
        p, q = num(1, 2), num(-3)
        self.assertEqual(table_of("slanted", [p, q, (0, 1), (1, 1)]), table("1/2", -3, 0, 1))
        self.assertEqual(table_of("turned", [p, q]), table("1/2", 3, -3, "1/2"))
        self.assertEqual(table_of("mirrored", [p, q]), table("1/2", -3, -3, "-1/2"))
        self.assertEqual(table_of("stretched", [p, q]), table("1/2", 0, 0, -3))
        self.assertEqual(table_of("sized", [p]), table("1/2", 0, 0, "1/2"))
        self.assertEqual(table_of(numbers=[q], kind="even"), table(-3, 0, 0, -3))

    def test_which_tables_fit(self):
        for kind in ALL:
            for one in grid():
                expected = FITTING[kind](*one.entries())
                self.assertIs(fits(kind, one), expected, (kind, one))
                self.assertIs(own_numbers(kind, one) is None, not expected)
                if expected:
                    numbers = own_numbers(kind, one)
                    self.assertIs(type(numbers), list)
                    self.assertEqual(table_of(kind, numbers), one)
        self.assertIs(fits(table=table(1, 2, 3, 4), kind="turned"), False)
        self.assertIsNone(own_numbers(table=table(1, 2, 3, 4), kind="turned"))

    def test_the_zero_table_is_of_each_kind(self):
        for kind in ALL:
            self.same(own_numbers(kind, Table.zero()), [(0, 1)] * COUNTS[kind])

    def test_lists_are_new_and_stay_as_they_are(self):
        numbers = [num(1), num(2)]
        made = table_of("turned", numbers)
        self.same(numbers, [num(1), num(2)])
        numbers[0] = num(9)
        self.assertEqual(made, table(1, -2, 2, 1))
        own_numbers("turned", made).append(num(5))
        self.same(own_numbers("turned", made), [num(1), num(2)])

    def test_stays_for_all_pairs(self):
        seen = {}
        for kind, other in product(ALL, repeat=2):
            ones = [expected_table(kind, [num(n) for n in numbers])
                    for numbers in product((0, 1, 3), repeat=COUNTS[kind])]
            for one in grid():
                expected = all(FITTING[other](*(left * one).entries()) for left in ones)
                self.assertIs(stays(kind, one, other), expected, (kind, one, other))
                seen[kind, other, expected] = one
        for kind, other in product(ALL, repeat=2):
            self.assertIn((kind, other, True), seen)
            self.assertEqual((kind, other, False) in seen, other != "slanted")

    def test_stays_by_hand(self):
        mirrored, turned = table(1, 2, 2, -1), table(1, -2, 2, 1)
        for kind, one, other, expected in [
                ("turned", mirrored, "mirrored", True), ("mirrored", turned, "mirrored", True),
                ("mirrored", mirrored, "turned", True), ("turned", mirrored, "turned", False),
                ("stretched", table(2, 0, 0, 3), "stretched", True),
                ("sized", table(2, 0, 0, 3), "stretched", True),
                ("sized", table(2, 0, 0, 3), "sized", False),
                ("even", table(2, 0, 0, 2), "even", True), ("sized", turned, "turned", True),
                ("sized", table(5, 0, 0, 5), "even", True), ("stretched", turned, "turned", False),
                ("even", table(5, 0, 0, 5), "sized", True), ("slanted", turned, "turned", False),
                ("slanted", Table.zero(), "even", True)]:
            self.assertIs(stays(kind, one, other), expected, (kind, one, other))
        self.assertIs(stays(other="turned", table=turned, kind="even"), True)
        self.assertIs(stays("stretched", table(0, 1, 1, 0), "stretched"), False)

    def test_is_narrower_for_all_pairs(self):
        for kind, other in product(ALL, repeat=2):
            self.assertIs(is_narrower(kind, other), other in NARROWER[kind], (kind, other))
        self.assertIs(is_narrower(other="sized", kind="even"), True)


if __name__ == "__main__":
    unittest.main()
