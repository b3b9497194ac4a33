"""Spaces: their lands, what follows in them, and which of them are equal."""

from fractions import Fraction
import unittest

from lostland.errors import (
    InvalidClaim, InvalidName, InvalidSpot, NotFollowing, TooMany, UnknownReading, UnknownSheet)
from lostland.lands import Land, land_of
from lostland.rooms import Room
from lostland.sheets import Sheet
from lostland.spaces import Space
from lostland.sums import is_sum, row_form, row_keys
from tests import oracle
from tests.support import (
    ANY_VALUES, BIG, NOT_NAMES, NOT_SPOTS, ONE, ORIGIN, ZERO, Case, frac, some_spot, spot)

A, B, C, X = [("mark", mark) for mark in "abcx"]
EXAMPLE = Room(
    Sheet("s", "turned", [("a", ORIGIN), ("b", spot(1, 0)), ("c", spot(0, 1))]),
    Sheet("t", "turned", [("a", ORIGIN), ("b", spot(0, 2))]))
LINE = ("line", A, B, C)


def values_of(land):
    return {key: frac(land.value_of(key)) for key in oracle.expected_unknowns(land.room)}


class SpaceCase(Case):
    def drawn_room(self, most=4):
        kinds = oracle.some_kinds(self.rng, self.rng.randint(0, most))
        return oracle.drawn(self.rng, kinds, self.rng.randint(1, 5), loose=1)

    def drawn(self, most=4):
        """A drawn space; some agree with a whole land, some do not."""
        room, land = self.drawn_room(most)
        told = []
        if len(room):
            told = [oracle.true_plain(self.rng, room, land) for _ in range(self.rng.randint(0, 3))]
        way = self.rng.random()
        if way < 0.3 and room.readings():
            name, mark = self.rng.choice(room.readings())
            room = room.with_reading(name, mark, some_spot(self.rng))
        elif way < 0.6:
            told += [oracle.some_plain(self.rng, room) for _ in range(self.rng.randint(1, 3))]
        return room, told

    def some_form(self, room):
        terms = {key: Fraction(self.rng.randint(-2, 2), self.rng.randint(1, 2))
                 for key in oracle.expected_unknowns(room) if self.rng.random() < 0.3}
        return oracle.as_form(terms)

    def following_form(self, room, told):
        """A drawn form that follows."""
        parts = [(self.rng.randint(-2, 2), terms) for _, terms in oracle.rows(room, told)]
        return oracle.as_form(oracle.added(*parts))


class TestSpace(SpaceCase):
    def test_the_example(self):
        space = Space(EXAMPLE)
        self.same([space.rank, space.freedoms], [10, 4])
        self.same(repr(space), "Space(14 unknowns, 4 freedoms)")
        self.assertEqual(space.room, EXAMPLE)
        self.same(space.told(), [])

    def test_the_empty_room(self):
        space = Space(Room())
        self.same([space.rank, space.freedoms, space.base()], [0, 0, []])
        self.same(repr(space), "Space(0 unknowns, 0 freedoms)")
        self.assertIs(space.has(land_of(Room(), tables={}, moves={}, places={})), True)
        self.assertIs(space.follows(()), True)
        self.same(space.sum_for(()), ())
        self.assertEqual(space, Space(Room(), told=()))
        self.assertIs(bool(space), True)

    def test_rank_and_base_against_an_elimination(self):
        for _ in range(80):
            room, told = self.drawn()
            space = Space(room, told=told)
            vectors = [terms for _, terms in oracle.rows(room, told)]
            rank, unknowns = oracle.rank(vectors), oracle.expected_unknowns(room)
            self.same(space.rank, rank)
            self.same(space.freedoms, len(unknowns) - rank)
            self.same(repr(space), f"Space({len(unknowns)} unknowns, {len(unknowns) - rank} freedoms)")
            base = space.base()
            self.assertIs(type(base), list)
            self.same(len(base), space.freedoms)
            for land in base:
                self.assertIs(type(land), Land)
                self.assertEqual(land.room, room)
                self.assertIs(space.has(land), True)
                values = values_of(land)
                self.assertTrue(all(oracle.value(terms, values) == 0 for terms in vectors))
            self.assertEqual(oracle.rank([oracle.added((1, values_of(land))) for land in base]),
                             len(base))

    def test_told_claims(self):
        room = Room(marks=["a", "b", "c"])
        claims = [("same", A, B)] * 12
        for many in (0, 3, 12):
            space = Space(room, told=claims[:many])
            self.same(space.told(), claims[:many])
            self.same(space.freedoms, 6 if many == 0 else 4)
        self.same(Space(room, told=tuple(claims)).told(), claims)
        self.same(Space(room, told=[("same", A, A)]).freedoms, 6)
        self.same(Space(room, told=[("middle", A, B, C), ("middle", B, A, C)]).freedoms, 2)

    def test_claims_that_contradict_each_other(self):
        # Two spots of a turned sheet at one place crush it.
        room = EXAMPLE.without("t", "b")
        told = [("same", ("spot", "s", ORIGIN), ("spot", "s", spot(1, 0)))]
        space = Space(room, told=told)
        self.same(space.freedoms, 4)
        self.assertTrue(all("s" in land.crushed() for land in space.base()))
        told.append(("same", ("spot", "t", ORIGIN), ("spot", "t", spot(0, 1))))
        self.same(Space(room, told=told).freedoms, 2)
        self.assertTrue(all(land.crushed() == ["s", "t"] for land in
                            Space(room, told=told).base()))

    def test_told_that_is_no_list_or_tuple(self):
        for value in ANY_VALUES + ["", "same a b"]:
            if isinstance(value, (list, tuple)):
                continue
            self.fails(InvalidClaim, {"at": -1, "why": "form"}, Space, EXAMPLE, told=value)

    def test_too_many_told_claims(self):
        for told in ([("same", A, B)] * 13, [None] * 13, (LINE,) * 14):
            self.fails(TooMany, {"most": 12}, Space, EXAMPLE, told=told)

    def test_the_first_wrong_told_claim(self):
        good = ("same", A, B)
        wrong = [(value, "form") for value in ANY_VALUES] + [
            (LINE, "form"), (("side", A, B, C, A), "form"), (("not", good), "form"),
            (("line", A, B, X), "point"), (("not", ("same", A, X)), "point"),
            (("same", A, X), "point"), (("mix", A, ((ZERO, B),)), "weights"),
            (("not", ("mix", A, ((ZERO, B),))), "weights"), (["same", A, B], "form")]
        for value, why in wrong:
            for at in (0, 2, 11):
                told = [good] * at + [value] + [None] * (11 - at)
                self.fails(InvalidClaim, {"at": at, "why": why}, Space, EXAMPLE, told=told)
                self.fails(InvalidClaim, {"at": at, "why": why}, Space(EXAMPLE).with_told, *told)

    def test_lists_that_are_changed_behind_the_call(self):
        told = [("same", A, B)]
        space = Space(EXAMPLE, told=told)
        told.append(("same", A, C))
        space.told().clear()
        base = space.base()
        base.pop()
        self.same(space.told(), [("same", A, B)])
        self.same(space.freedoms, 2)
        self.same(len(space.base()), 2)
        self.assertEqual(space.base(), space.base())


class TestHas(SpaceCase):
    def test_lands_of_the_space(self):
        for _ in range(40):
            room, told = self.drawn()
            space, base = Space(room, told=told), oracle.null_base(room, told)
            for _ in range(3):
                land = oracle.land_from(room, oracle.mixed_values(self.rng, base, room))
                self.assertIs(space.has(land), True)
            values = oracle.mixed_values(self.rng, oracle.null_base(room), room)
            land = oracle.land_from(room, values)
            holds = all(oracle.value(terms, values) == 0 for _, terms in oracle.rows(room, told))
            self.assertIs(space.has(value=land), holds)
            self.assertIs(space.has(land), all(land.holds(claim) for claim in told))

    def test_one_coordinate_is_not_enough(self):
        room = Room(marks=["a", "b"])
        space = Space(room, told=[("same", A, B)])
        for b, expected in [((0, 0), True), ((0, 1), False), ((1, 0), False)]:
            land = land_of(room, tables={}, moves={}, places={"a": ORIGIN, "b": spot(*b)})
            self.assertIs(space.has(land), expected)

    def test_other_values(self):
        space = Space(EXAMPLE)
        land = space.base()[0]
        for value in ANY_VALUES + [[land], (land,), EXAMPLE, space, None]:
            self.assertIs(space.has(value), False)

    def test_lands_of_other_rooms(self):
        land = Space(EXAMPLE).base()[0].scaled(ZERO)
        for room in (Room(*reversed(EXAMPLE.sheets())), EXAMPLE.with_mark("x"),
                     EXAMPLE.without("t", "b"), EXAMPLE.with_sheet(EXAMPLE.sheet("t").of_kind("stretched"))):
            self.assertIs(Space(room).has(land), False)
        self.assertIs(Space(Room(*EXAMPLE.sheets(), marks=["b"])).has(land), True)


class TestFollows(SpaceCase):
    def check_follows(self, space, form):
        total = space.sum_for(form)
        self.assertIs(space.follows(form), True)
        self.assertIs(is_sum(space.room, total, space.told()), True)
        self.assertEqual(oracle.multiplied_out(space.room, space.told(), total), oracle.as_dict(form))
        self.same(space.sum_for(form=form), total)

    def test_forms_that_follow(self):
        for _ in range(60):
            room, told = self.drawn()
            space = Space(room, told=told)
            for _ in range(4):
                self.check_follows(space, self.following_form(room, told))
            for key in row_keys(room, told):
                self.check_follows(space, row_form(room, key, told))
            self.same(space.sum_for(()), ())
            self.assertIs(space.follows(()), True)

    def test_forms_of_any_kind(self):
        found = []
        for _ in range(60):
            room, told = self.drawn(2)
            space = Space(room, told=told)
            vectors = [terms for _, terms in oracle.rows(room, told)]
            for _ in range(6):
                form = self.some_form(room)
                if self.rng.random() < 0.5:
                    form = self.following_form(room, told)
                expected = oracle.is_spanned(vectors, oracle.as_dict(form))
                found.append(expected)
                if expected:
                    self.check_follows(space, form)
                else:
                    self.assertIs(space.follows(form=form), False)
                    self.fails(NotFollowing, {}, space.sum_for, form)
                    self.assertTrue(any(land.at_form(form) != ZERO for land in space.base()))
        self.assertEqual(set(found), {True, False})

    def test_rows_that_are_empty(self):
        space = Space(Room(marks=["a"]), told=[("same", A, A), ("mix", A, ((ONE, A),))])
        self.same([space.rank, space.freedoms], [0, 2])
        self.same(space.sum_for(()), ())
        self.fails(NotFollowing, {}, space.sum_for, ((("place", "a", 0), ONE),))

    def test_long_numbers(self):
        room = Room(
            Sheet("s", "slanted", [("a", ORIGIN), ("b", ((BIG, 1), (1, BIG))), ("c", spot(0, 1))]),
            Sheet("t", "turned", [("a", ORIGIN), ("b", ((1, BIG), (-BIG, 3))), ("c", spot(1, 1))]))
        space = Space(room)
        self.same(space.freedoms, 4)
        self.check_follows(space, self.following_form(room, []))


class TestChanged(SpaceCase):
    def test_with_told(self):
        first, second = ("same", A, B), ("middle", A, B, C)
        space = Space(EXAMPLE, told=[first])
        self.same(space.with_told(second, first).told(), [first, second, first])
        self.assertEqual(space.with_told(), space)
        self.same(space.with_told().told(), [first])
        self.same(space.told(), [first])
        self.same(space.freedoms, 2)
        self.assertEqual(space.with_told(second).room, EXAMPLE)
        more = Space(EXAMPLE, told=[first] * 10)
        self.same(len(more.with_told(first, first).told()), 12)
        self.fails(TooMany, {"most": 12}, more.with_told, first, first, first)
        self.fails(TooMany, {"most": 12}, more.with_told, None, None, None)
        self.fails(InvalidClaim, {"at": 11, "why": "form"}, more.with_told, first, LINE)
        self.fails(InvalidClaim, {"at": 10, "why": "point"}, more.with_told, ("same", A, X), None)
        self.fails(InvalidClaim, {"at": 1, "why": "form"}, space.with_told, [second])

    def test_with_reading_and_without(self):
        told = [("same", A, B), ("middle", A, ("spot", "t", ORIGIN), C)]
        space = Space(EXAMPLE, told=told)
        for other, room in [
                (space.with_reading("t", "c", spot(1, 1)), EXAMPLE.with_reading("t", "c", spot(1, 1))),
                (space.with_reading(spot=ORIGIN, mark="x", name="s"), EXAMPLE.with_reading("s", "x", ORIGIN)),
                (space.with_reading("s", "a", spot(5, 5)), EXAMPLE.with_reading("s", "a", spot(5, 5))),
                (space.without("s", "a"), EXAMPLE.without("s", "a")),
                (space.without(mark="c", name="s"), EXAMPLE.without("s", "c"))]:
            self.assertIs(type(other), Space)
            self.assertEqual(other.room, room)
            self.same(other.told(), told)
        self.assertEqual(space.room, EXAMPLE)
        self.same(space.without("s", "c").room.loose(), ["c"])

    def test_errors_in_their_order(self):
        space = Space(EXAMPLE)
        for value in ANY_VALUES + NOT_NAMES + ["a"]:
            if value not in ("s", "t"):
                self.fails(UnknownSheet, {"name": value}, space.with_reading, value, None, None)
                self.fails(UnknownSheet, {"name": value}, space.without, value, None)
            if value not in ("a", "b"):
                self.fails(UnknownReading, {"name": "t", "mark": value}, space.without, "t", value)
        for value in NOT_NAMES:
            self.fails(InvalidName, {"value": value}, space.with_reading, "s", value, None)
        for value in NOT_SPOTS:
            self.fails(InvalidSpot, {"value": value}, space.with_reading, "s", "d", value)
        full = Space(EXAMPLE.with_sheet(Sheet("u", "even", [(mark, ORIGIN) for mark in "defghijkl"])))
        self.fails(TooMany, {"most": 12}, full.with_reading, "s", "x", ORIGIN)


class TestEquality(SpaceCase):
    def same_spaces(self, one, other):
        self.assertIs(one.is_within(other), True)
        self.assertIs(other.is_within(other=one), True)
        self.assertTrue(one == other)
        self.assertTrue(other == one)
        self.assertFalse(one != other)

    def other_spaces(self, one, other, inner, outer):
        self.assertIs(one.is_within(other), inner)
        self.assertIs(other.is_within(one), outer)
        self.assertFalse(one == other)
        self.assertTrue(other != one)

    def test_another_order(self):
        told = [("same", A, X), ("middle", B, A, C)]
        room = EXAMPLE.with_mark("x")
        space = Space(room, told=told)
        turned = Room(*[Sheet(sheet.name, sheet.kind, sheet.readings()[::-1])
                        for sheet in reversed(room.sheets())], marks=["x"])
        self.same_spaces(space, Space(turned, told=told[::-1]))
        self.same_spaces(space, Space(turned, told=told + told))
        self.same_spaces(space, Space(turned, told=[("same", X, A), ("middle", B, C, A)]))

    def test_readings_that_follow(self):
        space = Space(EXAMPLE)
        self.same_spaces(space, Space(EXAMPLE.with_reading("t", "c", spot(-2, 0))))
        self.same_spaces(space, space.with_told(("same", C, ("spot", "t", spot(-2, 0)))))
        self.other_spaces(space.with_reading("t", "c", spot(-2, 1)), space, True, False)
        self.other_spaces(space, space.with_told(("same", A, B)), False, True)
        self.other_spaces(space, space.without("s", "b"), True, False)
        other = space.with_reading("t", "b", spot(0, 3))
        self.other_spaces(space, other, False, False)

    def test_kinds(self):
        def space(*kinds, told=()):
            return Space(Room(*[Sheet("stu"[at], kind) for at, kind in enumerate(kinds)],
                              marks=["a"]), told=told)
        # Turned, mirrored and stretched sheets have the same unknowns.
        self.same_spaces(space("turned", "even"), space("stretched", "even"))
        self.same_spaces(space("turned"), space("mirrored"))
        self.other_spaces(space("turned"), space("slanted"), False, False)
        self.other_spaces(space("sized"), space("even"), False, False)
        self.other_spaces(space("sized", "sized"), space("sized", "even"), False, False)
        self.other_spaces(space("turned"), space("turned", "turned"), False, False)
        told = [("same", A, ("spot", "s", spot(1, 0)))]
        self.other_spaces(space("turned", told=told), space("stretched", told=told), False, False)
        self.same_spaces(space("turned", told=told), space("mirrored", told=told))

    def test_other_marks(self):
        self.other_spaces(Space(Room(marks=["a"])), Space(Room(marks=["b"])), False, False)
        self.other_spaces(Space(EXAMPLE), Space(EXAMPLE.with_mark("x")), False, False)
        self.same_spaces(Space(EXAMPLE), Space(Room(*EXAMPLE.sheets(), marks=["a"])))

    def test_nothing_of_another_class(self):
        space = Space(EXAMPLE)
        for value in ANY_VALUES + [EXAMPLE, [space], (space,)]:
            self.assertIs(space == value, False)
            self.assertIs(value == space, False)

    def test_drawn_spaces(self):
        found = []
        for _ in range(120):
            room, told = self.drawn(3)
            other_room, other_told = room, list(told)
            way = self.rng.randrange(4)
            if way == 0 and room.readings():
                other_room = room.without(*self.rng.choice(room.readings()))
            elif way == 1 and told:
                other_told.pop()
            elif way == 2 and room.readings():
                name, mark = self.rng.choice(room.readings())
                other_room = room.with_reading(name, mark, some_spot(self.rng))
            one, other = Space(room, told=told), Space(other_room, told=other_told)
            firsts = [terms for _, terms in oracle.rows(room, told)]
            seconds = [terms for _, terms in oracle.rows(other_room, other_told)]
            rank = oracle.rank(firsts + seconds)
            inner, outer = rank == oracle.rank(firsts), rank == oracle.rank(seconds)
            found.append((inner, outer))
            self.assertIs(one.is_within(other), inner)
            self.assertIs(other.is_within(one), outer)
            self.assertIs(one == other, inner and outer)
        self.assertEqual(set(found), {(a, b) for a in (True, False) for b in (True, False)})

    def test_a_call_that_raises_changes_nothing(self):
        space = Space(EXAMPLE, told=[("same", A, B)])
        for call in (lambda: space.with_told(LINE), lambda: space.sum_for(((("move", "s", 0), ONE),)),
                     lambda: space.without("s", "x"), lambda: space.with_reading("s", "A", None)):
            with self.assertRaises(Exception):
                call()
        self.same_spaces(space, Space(EXAMPLE, told=[("same", A, B)]))
        self.same(space.told(), [("same", A, B)])
        self.same(space.freedoms, 2)


if __name__ == "__main__":
    unittest.main()
