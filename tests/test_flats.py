"""Flats of each size."""

from itertools import combinations, product
from math import gcd
import unittest

from lostland.errors import InvalidSpot
from lostland.flats import Flat
from lostland.motions import Motion
from lostland.tables import Table
from tests.support import (
    ANY_VALUES, BIG, NOT_SPOTS, ONE, ORIGIN, SPOTS, ZERO, Case, frac, motion, some_spot, spot)

GRID = [spot(x, y) for x, y in product((-1, 0, 1, 2), repeat=2)]


def lined(p, q, r):
    """Whether three spots are in line, over values of Fraction."""
    (a, b), (c, d), (e, f) = [[frac(part) for part in place] for place in (p, q, r)]
    return (c - a) * (f - b) == (e - a) * (d - b)


def holds(spots, place):
    """Whether a place is in the flat through some spots, worked out from all of them."""
    if place in spots:
        return True
    if any(not lined(p, q, r) for p, q, r in combinations(spots, 3)):
        return True
    return any(p != q and lined(p, q, place) for p, q in combinations(spots, 2))


def size_of(spots):
    if any(not lined(p, q, r) for p, q, r in combinations(spots, 3)):
        return 2
    return min(len(set(spots)), 2) - 1


def samples():
    """Pairs of a flat and spots that it goes through."""
    lists = [[], [spot(0, 0)], [spot(1, 2)], [spot(1, 2)] * 3, [spot(0, 0), spot(1, 1)],
             [spot(2, 2), spot(-1, -1), spot(0, 0)], [spot(0, 1), spot(1, 2)],
             [spot(0, 0), spot(0, 2)], [spot(1, 0), spot(1, 2)], [spot(0, 1), spot(1, 1)],
             [spot(0, 0), spot(1, 0)], [spot("1/2", 0), spot(0, "1/3")], [spot(0, 2), spot(2, 0)],
             [spot(0, 0), spot(1, 0), spot(0, 1)], [spot(0, 0)] * 2 + [spot(1, 1), spot(1, 2)],
             GRID[:8]]
    return [(Flat(*spots), spots) for spots in lists]


class TestFlat(Case):
    def test_size(self):
        for flat, spots in samples():
            self.same(flat.size, size_of(spots))
        for many in range(9):
            for _ in range(30):
                spots = [self.rng.choice(GRID) for _ in range(many)]
                self.same(Flat(*spots).size, size_of(spots))

    def test_any_value_that_is_no_spot(self):
        for value in NOT_SPOTS:
            self.fails(InvalidSpot, {"value": value}, Flat, value)
            self.fails(InvalidSpot, {"value": value}, Flat, ORIGIN, spot(1, 0), spot(0, 1), value,
                       ["later"])
        self.fails(InvalidSpot, {"value": []}, Flat, [], None)

    def test_whole(self):
        self.same(Flat.whole().size, 2)
        self.assertIsInstance(vars(Flat)["whole"], staticmethod)
        for place in SPOTS:
            self.assertIn(place, Flat.whole())

    def test_spots_go_through_the_flat(self):
        for flat, _ in samples():
            spots = flat.spots()
            self.assertIs(type(spots), list)
            self.assertEqual(len(spots), flat.size + 1)
            self.assertEqual(Flat(*spots), flat)
            self.same(spots, flat.spots())

    def test_spots_are_a_new_list(self):
        for flat, given in samples():
            before = flat.spots()
            flat.spots().append(spot(7, 9))
            flat.spots().clear()
            self.same(flat.spots(), before)
            self.same(flat.size, size_of(given))

    def test_contains(self):
        for flat, spots in samples():
            for place in GRID + SPOTS + [spot("1/4", "1/6"), spot("1/4", "1/5")]:
                self.assertIs(place in flat, holds(spots, place))
        for flat, _ in samples():
            for value in NOT_SPOTS:
                self.assertIs(value in flat, False)

    def test_equation(self):
        lines = 0
        for flat, spots in samples() + [(Flat(SPOTS[4], SPOTS[5]), [SPOTS[4], SPOTS[5]])]:
            found = flat.equation()
            if flat.size != 1:
                self.assertIsNone(found)
                continue
            lines += 1
            a, b, c = found
            self.same([type(number) for number in found], [int] * 3)
            self.assertIs(type(found), tuple)
            self.assertEqual(gcd(a, b, c), 1)
            self.assertGreater(a if a != 0 else b, 0)
            for x, y in spots:
                self.assertEqual(a * frac(x) + b * frac(y), c)
        self.assertGreater(lines, 6)

    def test_equations_by_hand(self):
        for places, expected in [
                ([(0, 0), (1, 0)], (0, 1, 0)), ([(0, 0), (0, 1)], (1, 0, 0)),
                ([(0, 2), (2, 0)], (1, 1, 2)), ([("1/2", 0), (0, "1/3")], (2, 3, 1)),
                ([(0, -2), (1, -2)], (0, 1, -2)), ([("1/3", 5), ("1/3", 6)], (3, 0, 1)),
                ([(0, "1/2"), (2, "3/2")], (2, -4, -2)), ([(1, 1), (3, 2)], (1, -2, -1)),
                ([(0, "1/6"), (1, "1/6")], (0, 6, 1))]:
            spots = [spot(x, y) for x, y in places]
            divisor = gcd(*expected)
            expected = tuple(number // divisor for number in expected)
            self.same(Flat(*spots).equation(), expected)
            self.same(Flat(*reversed(spots)).equation(), expected)

    def test_moved(self):
        motions = [Motion.identity(), motion(0, 0, 0, 0, 3, 4), motion(1, 1, 1, 1, 0, 1),
                   motion(0, -1, 1, 0, 2, 2), motion(1, 0, 0, 0), motion("1/2", 3, -1, 7, 0, "1/9")]
        for flat, spots in samples():
            for one in motions:
                images = [one(place) for place in spots]
                moved = flat.moved(one)
                self.assertEqual(moved, Flat(*images))
                self.same(moved.size, size_of(images))
                self.assertEqual(flat.moved(motion=one), moved)

    def test_and(self):
        for (one, first), (other, second) in product(samples(), repeat=2):
            both = one & other
            self.assertIs(type(both), Flat)
            for place in GRID + both.spots() + [spot("1/4", "1/6"), spot("1/2", "1/2")]:
                self.assertIs(place in both, holds(first, place) and holds(second, place))

    def test_and_by_hand(self):
        line, other = Flat(spot(0, 0), spot(1, 1)), Flat(spot(0, 1), spot(1, 0))
        self.assertEqual(line & other, Flat(spot("1/2", "1/2")))
        self.assertEqual(line & Flat(spot(0, 1), spot(1, 2)), Flat())
        self.assertEqual(line & Flat(spot(3, 3), spot(2, 2)), line)
        self.assertEqual(Flat.whole() & line, line)
        self.assertEqual(line & Flat.whole(), line)
        self.assertEqual(Flat(spot(2, 2)) & line, Flat(spot(2, 2)))
        self.assertEqual(line & Flat(spot(2, 3)), Flat())
        self.assertEqual(Flat.whole() & Flat.whole(), Flat.whole())
        self.assertEqual(Flat.whole() & Flat(), Flat())
        self.assertEqual(Flat(spot(1, 1)) & Flat(spot(1, 2)), Flat())
        steep = Flat(spot("1/2", 0), spot("1/2", 5))
        self.assertEqual(steep & Flat(spot(0, "1/3"), spot(9, "1/3")), Flat(spot("1/2", "1/3")))

    def test_or(self):
        for (one, first), (other, second) in product(samples(), repeat=2):
            both = one | other
            self.assertIs(type(both), Flat)
            self.same(both.size, size_of(first + second))
            self.assertTrue(all(place in both for place in first + second))
        self.assertEqual(Flat(spot(1, 1)) | Flat(spot(1, 2)), Flat(spot(1, 0), spot(1, 9)))

    def test_equality(self):
        for (one, first), (other, second) in product(samples(), repeat=2):
            expected = (size_of(first) == size_of(second)
                        and all(holds(second, place) for place in first))
            self.assertIs(one == other, expected)
            self.assertIs(one != other, not expected)

    def test_equals_nothing_of_another_class(self):
        for one in (Flat(), Flat(ORIGIN), Flat(ORIGIN, (ONE, ZERO)), Flat.whole()):
            for value in ANY_VALUES + [ORIGIN, one.spots(), None, one.size]:
                if not isinstance(value, Flat):
                    self.assertIs(one == value, False)
                    self.assertIs(value == one, False)

    def test_repr(self):
        for flat, spots in samples():
            self.same(repr(flat), f"Flat({size_of(spots)})")
        self.same(repr(Flat()), "Flat(-1)")

    def test_always_true_and_never_changed(self):
        for one, spots in samples():
            self.assertTrue(one)
            for other, _ in samples():
                one & other, one | other, one == other
            one.moved(Motion(Table.zero())), one.equation(), ORIGIN in one
            self.assertEqual(one, Flat(*spots))

    def test_big_spots(self):
        start, end = ((BIG, BIG + 1), (-BIG, 1)), ((1, BIG), (BIG, 2))
        flat = Flat(start, end)
        half = tuple((frac(a) + frac(b)) / 2 for a, b in zip(start, end))
        self.assertIn(spot(*half), flat)
        self.assertNotIn(spot(half[0], half[1] + 1), flat)
        cross = flat & Flat(spot(*half), some_spot(self.rng))
        self.assertEqual(cross, Flat(spot(*half)))


if __name__ == "__main__":
    unittest.main()
