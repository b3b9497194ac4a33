"""Tables."""

import unittest

from lostland.errors import InvalidFraction, InvalidSpot, Singular
from lostland.flats import Flat
from lostland.motions import Motion
from lostland.tables import Table
from tests.support import (
    ANY_VALUES, BIG, FRACTIONS, NOT_FRACTIONS, NOT_SPOTS, ONE, ORIGIN, SPOTS, ZERO, Case, frac,
    num, some_fraction, some_spot, some_table, table)


def entries(one):
    """The entries as values of Fraction."""
    return [frac(entry) for entry in (one.a, one.b, one.c, one.d)]


def made(values):
    return tuple(num(value) for value in values)


class TestTable(Case):
    def some(self):
        singular = [table(1, 2, 2, 4), table(0, 0, 0, 0), table(0, 1, 0, 5), table(0, 0, 3, 1)]
        big = [Table((BIG, 1), (1, BIG), (-BIG, BIG + 1), (0, 1))]
        return singular + big + [some_table(self.rng) for _ in range(20)]

    def test_attributes_and_entries(self):
        one = Table((1, 2), ZERO, (-3, 4), (5, 1))
        self.same((one.a, one.b, one.c, one.d), ((1, 2), ZERO, (-3, 4), (5, 1)))
        self.same(one.entries(), ((1, 2), ZERO, (-3, 4), (5, 1)))
        self.same(Table(d=(5, 1), c=(-3, 4), b=ZERO, a=(1, 2)).entries(), one.entries())

    def test_constructor_names_the_first_wrong_argument(self):
        for value in NOT_FRACTIONS:
            for at in range(4):
                given = [ONE] * at + [value] + [["later"]] * (3 - at)
                self.fails(InvalidFraction, {"value": value}, Table, *given)
        self.fails(InvalidFraction, {"value": (2, 4)}, Table, d=None, c=True, b=(2, 4), a=ONE)
        for value in FRACTIONS:
            self.same(Table(value, value, value, value).entries(), (value,) * 4)

    def test_identity_and_zero(self):
        self.same(Table.identity().entries(), (ONE, ZERO, ZERO, ONE))
        self.same(Table.zero().entries(), (ZERO, ZERO, ZERO, ZERO))
        self.assertIsInstance(vars(Table)["identity"], staticmethod)
        self.assertIsInstance(vars(Table)["zero"], staticmethod)

    def test_det(self):
        for one in self.some():
            a, b, c, d = entries(one)
            self.same(one.det, num(a * d - b * c))
        self.same(table(1, 2, 3, 4).det, (-2, 1))

    def test_call(self):
        for one in self.some():
            a, b, c, d = entries(one)
            for vector in SPOTS + [some_spot(self.rng) for _ in range(5)]:
                x, y = frac(vector[0]), frac(vector[1])
                self.same(one(vector), made((a * x + b * y, c * x + d * y)))
        self.same(table(0, 1, 2, 0)(vector=(ONE, (3, 1))), ((3, 1), (2, 1)))

    def test_call_with_any_value(self):
        one = table(1, 2, 3, 4)
        for value in NOT_SPOTS:
            self.fails(InvalidSpot, {"value": value}, one, value)
        self.fails(InvalidSpot, {"value": None}, one, vector=None)
        self.fails(InvalidSpot, {"value": [ZERO, ZERO]}, Table.zero(), [ZERO, ZERO])

    def test_operators(self):
        for one in self.some():
            self.same((-one).entries(), made([-x for x in entries(one)]))
            for other in self.some():
                pairs = list(zip(entries(one), entries(other)))
                self.same((one + other).entries(), made([x + y for x, y in pairs]))
                self.same((one - other).entries(), made([x - y for x, y in pairs]))
                (a, b, c, d), (e, f, g, h) = entries(one), entries(other)
                self.same((one * other).entries(), made(
                    [a * e + b * g, a * f + b * h, c * e + d * g, c * f + d * h]))
                self.assertIs(type(one * other), Table)

    def test_product_takes_a_vector_through_the_second_one_first(self):
        one, other = table(0, -1, 1, 0), table(2, 0, 0, 3)
        vector = (ONE, ONE)
        self.same((one * other)(vector), one(other(vector)))
        self.assertNotEqual((one * other)(vector), other(one(vector)))

    def test_scaled(self):
        for one in self.some():
            for weight in FRACTIONS + [some_fraction(self.rng)]:
                self.same(one.scaled(weight).entries(),
                          made([x * frac(weight) for x in entries(one)]))
        self.assertEqual(table(1, 2, 3, 4).scaled(weight=(1, 2)), table("1/2", 1, "3/2", 2))

    def test_inverse(self):
        singular = 0
        for one in self.some():
            if one.det == ZERO:
                singular += 1
                self.fails(Singular, {}, one.inverse)
                continue
            back = one.inverse()
            self.assertEqual(back * one, Table.identity())
            self.assertEqual(one * back, Table.identity())
            self.assertEqual(back.inverse(), one)
        self.assertGreaterEqual(singular, 4)
        self.assertEqual(table(0, 2, "-1/3", 1).inverse(), table("3/2", -3, "1/2", 0))

    def test_equality(self):
        one = table(1, 2, 3, 4)
        self.assertTrue(one == table(1, 2, 3, 4))
        self.assertFalse(one != table(1, 2, 3, 4))
        for other in (table(0, 2, 3, 4), table(1, 0, 3, 4), table(1, 2, 0, 4), table(1, 2, 3, 0)):
            self.assertFalse(one == other)
            self.assertTrue(one != other)

    def test_equals_nothing_of_another_class(self):
        one = Table((1, 1), (0, 1), (0, 1), (1, 1))
        for value in ANY_VALUES + [one.entries(), list(one.entries()), Motion(one), Flat()]:
            if not isinstance(value, Table):
                self.assertIs(one == value, False)
                self.assertIs(value == one, False)

    def test_repr(self):
        self.same(repr(Table(ONE, ZERO, (-1, 2), (3, 1))), "Table(1, 0, -1/2, 3)")
        self.same(repr(Table.zero()), "Table(0, 0, 0, 0)")
        self.same(repr(Table((BIG, 1), ONE, ONE, (1, BIG))), f"Table({BIG}, 1, 1, 1/{BIG})")

    def test_always_true_and_never_changed(self):
        one, other = table(0, 0, 0, 0), table(1, 2, 3, 5)
        self.assertTrue(one)
        before = (one.entries(), other.entries())
        one + other, one - other, one * other, -one, other.inverse(), other.scaled((2, 1))
        other(ORIGIN), repr(one), one.det, one == other
        self.same((one.entries(), other.entries()), before)


if __name__ == "__main__":
    unittest.main()
