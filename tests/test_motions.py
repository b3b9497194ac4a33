"""Motions, and the motion of three spots."""

from fractions import Fraction
import unittest

from lostland.errors import InLine, InvalidSpot, Singular
from lostland.motions import Motion, motion_of
from lostland.tables import Table
from tests.support import (
    ANY_VALUES, BIG, NOT_SPOTS, ONE, ORIGIN, SPOTS, ZERO, Case, frac, motion, some_motion,
    some_spot, spot, table)


class TestMotion(Case):
    def some(self):
        fixed = [Motion.identity(), motion(0, 0, 0, 0, 3, "1/2"), motion(1, 2, 2, 4, 1, 1),
                 motion(0, -1, 1, 0), Motion(table(BIG, 1, 0, 1), ((1, BIG), (-BIG, 1)))]
        return fixed + [some_motion(self.rng) for _ in range(15)]

    def test_attributes(self):
        one, move = table(1, 2, 3, 4), spot(5, "1/2")
        for made in (Motion(one, move), Motion(move=move, table=one)):
            self.assertIs(made.table, one)
            self.same(made.move, move)

    def test_without_a_move(self):
        self.same(Motion(table(1, 2, 3, 4)).move, (ZERO, ZERO))
        self.same(Motion(table=table(1, 2, 3, 4)).move, (ZERO, ZERO))
        self.same(Motion(table(1, 2, 3, 4))(spot(1, 1)), spot(3, 7))

    def test_move_of_any_value(self):
        for value in NOT_SPOTS:
            self.fails(InvalidSpot, {"value": value}, Motion, table(1, 0, 0, 1), value)
        self.fails(InvalidSpot, {"value": [ZERO, ZERO]}, Motion, Table.zero(), move=[ZERO, ZERO])

    def test_call(self):
        for one in self.some():
            a, b, c, d = [frac(entry) for entry in one.table.entries()]
            for place in SPOTS + [some_spot(self.rng) for _ in range(5)]:
                x, y = frac(place[0]), frac(place[1])
                self.same(one(place), spot(a * x + b * y + frac(one.move[0]),
                                           c * x + d * y + frac(one.move[1])))
        self.same(motion(0, 1, 2, 0, 5, 6)(spot=spot(1, 3)), spot(8, 8))

    def test_call_with_any_value(self):
        for value in NOT_SPOTS:
            self.fails(InvalidSpot, {"value": value}, Motion.identity(), value)
        self.fails(InvalidSpot, {"value": True}, motion(1, 2, 3, 4, 5, 6), spot=True)

    def test_product_takes_a_spot_through_the_second_one_first(self):
        for one in self.some():
            for other in self.some():
                both = one * other
                self.assertIs(type(both), Motion)
                for place in (ORIGIN, spot(1, 0), spot(0, 1), some_spot(self.rng)):
                    self.same(both(place), one(other(place)))

    def test_inverse(self):
        singular = 0
        for one in self.some():
            if one.table.det == ZERO:
                singular += 1
                self.fails(Singular, {}, one.inverse)
                continue
            self.assertEqual(one.inverse() * one, Motion.identity())
            self.assertEqual(one * one.inverse(), Motion.identity())
        self.assertGreaterEqual(singular, 2)
        self.assertEqual(motion(2, 0, 0, 4, 6, -1).inverse(), motion("1/2", 0, 0, "1/4", -3, "1/4"))

    def test_identity(self):
        self.assertEqual(Motion.identity().table, Table.identity())
        self.same(Motion.identity().move, ORIGIN)
        self.assertIsInstance(vars(Motion)["identity"], staticmethod)
        for place in SPOTS:
            self.same(Motion.identity()(place), place)

    def test_equality(self):
        one = motion(1, 2, 3, 4, 5, 6)
        self.assertTrue(one == motion(1, 2, 3, 4, 5, 6))
        self.assertFalse(one != motion(1, 2, 3, 4, 5, 6))
        for other in (motion(1, 2, 3, 5, 5, 6), motion(1, 2, 3, 4, 5, 7), motion(1, 2, 3, 4)):
            self.assertFalse(one == other)
            self.assertTrue(one != other)

    def test_equals_nothing_of_another_class(self):
        one = Motion.identity()
        for value in ANY_VALUES + [one.table, (one.table, one.move)]:
            if not isinstance(value, Motion):
                self.assertIs(one == value, False)
                self.assertIs(value == one, False)

    def test_always_true_and_never_changed(self):
        one = motion(0, 0, 0, 0)
        other = motion(1, 2, 3, 5, 7, 8)
        self.assertTrue(one)
        one * other, other.inverse(), other(ORIGIN), one == other
        self.assertEqual(one, motion(0, 0, 0, 0))
        self.assertEqual(other, motion(1, 2, 3, 5, 7, 8))


class TestMotionOf(Case):
    def test_takes_the_spots_to_the_images(self):
        done = 0
        for at in range(200):
            spots = [some_spot(self.rng, 2) for _ in range(3)]
            images = [some_spot(self.rng, 2) for _ in range(3)]
            if in_line(*spots):
                self.fails(InLine, {}, motion_of, spots, images)
                continue
            done += 1
            made = motion_of(tuple(spots), images) if at % 2 else motion_of(spots, tuple(images))
            self.assertIs(type(made), Motion)
            self.same([made(place) for place in spots], images)
        self.assertGreater(done, 100)

    def test_finds_the_motion_back(self):
        for one in [some_motion(self.rng) for _ in range(20)]:
            spots = [spot(1, 1), spot("1/2", 3), spot(-2, 0)]
            self.assertEqual(motion_of(images=[one(x) for x in spots], spots=spots), one)

    def test_spots_in_line_or_alike(self):
        images = [spot(0, 0), spot(1, 0), spot(0, 1)]
        for spots in ([spot(1, 2)] * 3, [spot(0, 0), spot(0, 0), spot(1, 0)],
                      [spot(0, 0), spot(1, 0), spot(0, 0)], [spot(1, 0), spot(0, 0), spot(0, 0)],
                      [spot(0, 0), spot(1, 1), spot(2, 2)],
                      [spot("1/3", "-1/2"), spot("4/3", "5/2"), spot("2/3", "1/2")]):
            self.fails(InLine, {}, motion_of, spots, images)

    def test_images_in_line_or_alike(self):
        spots = [spot(0, 0), spot(1, 0), spot(0, 1)]
        self.assertEqual(motion_of(spots, [spot(3, 4)] * 3), motion(0, 0, 0, 0, 3, 4))
        self.assertEqual(motion_of(spots, [spot(1, 1), spot(2, 2), spot(4, 4)]),
                         motion(1, 3, 1, 3, 1, 1))

    def test_lists_stay_as_they_are(self):
        spots, images = [spot(0, 0), spot(1, 0), spot(0, 1)], [spot(1, 0), spot(2, 5), spot(0, 0)]
        made = motion_of(spots, images)
        self.same(spots, [spot(0, 0), spot(1, 0), spot(0, 1)])
        self.same(images, [spot(1, 0), spot(2, 5), spot(0, 0)])
        spots[0] = images[0] = spot(9, 9)
        self.same(made(ORIGIN), spot(1, 0))

    def test_big_spots(self):
        spots = [((BIG, 1), ZERO), (ZERO, (1, BIG)), (ONE, ONE)]
        images = [SPOTS[4], SPOTS[5], SPOTS[3]]
        made = motion_of(spots, images)
        self.same([made(place) for place in spots], images)


def in_line(p, q, r):
    (a, b), (c, d), (e, f) = [[Fraction(*part) for part in place] for place in (p, q, r)]
    return (c - a) * (f - b) == (e - a) * (d - b)


if __name__ == "__main__":
    unittest.main()
