"""Fractions, spots, vectors and directions."""

from fractions import Fraction
from itertools import product
from math import gcd
import unittest

from lostland.errors import ZeroDivisor
from lostland.exact import (
    ONE, ZERO, direction, divided, fraction, fraction_text, is_fraction, is_less, is_spot, minus,
    negative, plus, read_fraction, sign, times, vector_minus, vector_plus, vector_times)
from tests.support import (
    ANY_VALUES, BIG, FRACTIONS, NOT_FRACTIONS, NOT_SPOTS, SPOTS, Case, frac, num, numbers_of,
    some_fraction, some_spot, spot)


class TestKinds(Case):
    def test_constants(self):
        self.same(ZERO, (0, 1))
        self.same(ONE, (1, 1))

    def test_is_fraction(self):
        for value in FRACTIONS:
            self.assertIs(is_fraction(value), True, value)
        for value in NOT_FRACTIONS:
            self.assertIs(is_fraction(value), False, value)
        for value in SPOTS + NOT_SPOTS:
            self.assertIs(is_fraction(value), value == (0, 1), value)
        self.assertIs(is_fraction(value=(1, 2)), True)

    def test_is_fraction_for_all_small_pairs(self):
        for over in range(-7, 8):
            for under in range(-7, 8):
                expected = under > 0 and gcd(over, under) == 1
                self.assertIs(is_fraction((over, under)), expected)
                self.assertIs(is_fraction([over, under]), False)

    def test_is_spot(self):
        for value in SPOTS:
            self.assertIs(is_spot(value), True, value)
        for value in NOT_SPOTS + FRACTIONS:
            self.assertIs(is_spot(value), False, value)
        for value in NOT_FRACTIONS:
            self.assertIs(is_spot(value), value == ((0, 1), (0, 1)), value)
        self.assertIs(is_spot(value=((1, 2), (0, 1))), True)


class TestFractions(Case):
    def test_fraction_is_in_lowest_terms(self):
        self.same(fraction(6, -4), (-3, 2))
        for over in range(-12, 13):
            for under in list(range(-12, 0)) + list(range(1, 13)):
                self.same(fraction(over, under), num(over, under))
        for _ in range(50):
            over, under = numbers_of(self.rng, 2)
            if under != 0:
                self.same(fraction(over, under), num(over, under))

    def test_fraction_by_name_and_without_under(self):
        self.same(fraction(5), (5, 1))
        self.same(fraction(0), (0, 1))
        self.same(fraction(under=-6, over=4), (-2, 3))
        self.same(fraction(over=-4), (-4, 1))

    def test_fraction_zero(self):
        for under in (1, -1, 5, -BIG):
            self.same(fraction(0, under), (0, 1))
        for over in (0, 1, -BIG):
            self.fails(ZeroDivisor, {}, fraction, over, 0)

    def pairs(self):
        some = [some_fraction(self.rng) for _ in range(30)] + FRACTIONS
        return [(one, other) for one in some for other in some]

    def test_sums_and_products(self):
        for one, other in self.pairs():
            left, right = frac(one), frac(other)
            self.same(plus(one, other), num(left + right))
            self.same(minus(one, other), num(left - right))
            self.same(times(one, other), num(left * right))
            if right == 0:
                self.fails(ZeroDivisor, {}, divided, one, other)
            else:
                self.same(divided(one, other), num(left / right))
            self.assertIs(is_less(one, other), left < right)

    def test_one_fraction(self):
        for one in [some_fraction(self.rng) for _ in range(30)] + FRACTIONS:
            self.same(negative(one), num(-frac(one)))
            self.same(sign(one), (frac(one) > 0) - (frac(one) < 0))

    def test_arguments_by_name(self):
        self.same(plus(one=(1, 2), other=(1, 3)), (5, 6))
        self.same(minus(other=(1, 2), one=(1, 3)), (-1, 6))
        self.same(times(other=(1, 2), one=(1, 3)), (1, 6))
        self.same(divided(other=(1, 2), one=(1, 3)), (2, 3))
        self.same(is_less(other=(1, 2), one=(1, 3)), True)
        self.same(negative(one=(1, 3)), (-1, 3))
        self.same(sign(one=(-1, 3)), -1)

    def test_results_may_be_handed_in_again(self):
        grown = (BIG, BIG + 1)
        for _ in range(5):
            grown = plus(times(grown, grown), negative(divided(ONE, grown)))
        self.assertTrue(is_fraction(grown))
        self.assertGreater(grown[1], 10 ** 5000)
        self.same(minus(grown, grown), ZERO)
        self.same(divided(grown, grown), ONE)


class TestTexts(Case):
    def test_written(self):
        for one, text in [((-3, 4), "-3/4"), ((2, 1), "2"), ((0, 1), "0"), ((-1, 1), "-1"),
                          ((1, 10), "1/10"), ((100, 1), "100"), ((BIG, BIG + 1), None)]:
            expected = f"{BIG}/{BIG + 1}" if text is None else text
            self.same(fraction_text(one), expected)
        self.same(fraction_text(one=(-3, 2)), "-3/2")

    def test_written_with_digits_of_every_count(self):
        for digits in list(range(1, 140)) + [3999, 4000]:
            for number in (10 ** (digits - 1), 10 ** digits - 1, 10 ** (digits - 1) + 1):
                self.assertEqual(fraction_text((number, 1)), str(number))
                self.assertEqual(fraction_text((-number, 1)), str(-number))
                if number > 1:
                    self.assertEqual(fraction_text((-1, number)), f"-1/{number}")

    def test_read_back(self):
        some = [some_fraction(self.rng, 30) for _ in range(200)] + FRACTIONS[:-1]
        most = 10 ** 4000 - 1
        for one in some + [(most, 1), (-most, 1), (-most, most - 1), (most - 1, most)]:
            self.same(read_fraction(fraction_text(one)), one)
        self.same(read_fraction(text="-1/2"), (-1, 2))

    def test_exactly_the_texts_of_fractions_are_read(self):
        for length in range(6):
            for signs in product("0124-/ ", repeat=length):
                text = "".join(signs)
                self.same(read_fraction(text), oracle(text))

    def test_what_is_not_read(self):
        for text in ["", "-", "/", "-0", "00", "01", "-01", "+1", "1 ", " 1", "1\n", "\n1", "1/1",
                     "1/0", "0/1", "0/2", "2/4", "-2/4", "1/-2", "-1/-2", "1/02", "01/2", "1/",
                     "/2", "1//2", "1/2/3", "1 /2", "1/ 2", "--1", "1.0", "1e3", "1_000", "0x1",
                     "one", "1/+2", "-", "-/2", "-0/3", "3/3", "(1, 2)", "\u0661", "1/\u0662",
                     "\u00b2", "1\t", "1/2 ", "a", "--", "1-", "1-/2"]:
            self.assertIsNone(read_fraction(text), text)

    def test_numbers_of_more_than_4000_digits_are_not_read(self):
        most, over = "9" * 4000, "9" * 4001
        self.same(read_fraction(most), (10 ** 4000 - 1, 1))
        for text in (over, "-" + over, "1/" + over, over + "/2", "1" * 4500, "1" * 20000,
                     "1/" + "7" * 9000):
            self.assertIsNone(read_fraction(text))

    def test_no_error_for_numbers_of_more_than_4000_digits(self):
        number = 10 ** 4500 + 10 ** 128 + 3
        text = "1" + "0" * 4371 + "1" + "0" * 127 + "3"
        self.assertEqual(fraction_text((number, 1)), text)
        self.assertEqual(fraction_text((-number, 2)), "-" + text + "/2")

    def test_any_value(self):
        for value in ANY_VALUES:
            expected = oracle(value) if isinstance(value, str) else None
            self.same(read_fraction(value), expected)


def oracle(text):
    """Reads by trying out whether the text of the value is this text again."""
    try:
        value = Fraction(text)
    except (ValueError, ZeroDivisionError):
        return None
    return num(value) if str(value) == text else None


class TestVectors(Case):
    def test_direction(self):
        cases = [((2, 0), (1, 0)), ((-2, 0), (1, 0)), ((0, "-1/3"), (0, 1)), ((0, 5), (0, 1)),
                 (("-1/2", "1/3"), (3, -2)), (("1/2", "1/3"), (3, 2)), ((6, 4), (3, 2)),
                 ((-6, -4), (3, 2)), (("4/3", "-2/9"), (6, -1))]
        for (x, y), expected in cases:
            self.same(direction(spot(x, y)), expected)
        self.same(direction(vector=spot(3, 6)), (1, 2))

    def test_direction_is_the_only_one(self):
        some = [some_spot(self.rng, 9) for _ in range(200)] + SPOTS
        for vector in some:
            if vector == (ZERO, ZERO):
                self.fails(ZeroDivisor, {}, direction, vector)
                continue
            s, t = direction(vector)
            self.assertIs(type(s), int)
            self.assertIs(type(t), int)
            self.assertEqual(gcd(s, t), 1)
            self.assertGreater(s if s != 0 else t, 0)
            self.assertEqual(frac(vector[0]) * t, frac(vector[1]) * s)

    def test_direction_of_big_vectors(self):
        self.same(direction(((-BIG * 2, 1), (BIG * 4, 1))), (1, -2))

    def test_sums_and_multiples(self):
        some = [some_spot(self.rng) for _ in range(12)] + SPOTS
        for one in some:
            for other in some:
                self.same(vector_plus(one, other), tuple(
                    num(frac(a) + frac(b)) for a, b in zip(one, other)))
                self.same(vector_minus(one, other), tuple(
                    num(frac(a) - frac(b)) for a, b in zip(one, other)))
            for weight in FRACTIONS:
                self.same(vector_times(one, weight), tuple(
                    num(frac(a) * frac(weight)) for a in one))

    def test_arguments_by_name(self):
        self.same(vector_plus(other=spot(1, 2), one=spot(0, 5)), spot(1, 7))
        self.same(vector_minus(other=spot(1, 2), one=spot(0, 5)), spot(-1, 3))
        self.same(vector_times(weight=(1, 2), vector=spot(1, 2)), spot("1/2", 1))


if __name__ == "__main__":
    unittest.main()
