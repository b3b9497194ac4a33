"""Crushed papers."""

import unittest

from lostland.forms import press_form
from lostland.presses import crushed_paper, is_crushed_paper
from lostland.rooms import Room
from lostland.sheets import Sheet
from lostland.spaces import Space
from lostland.sums import sum_plus, sum_times
from lostland.whole import press, pressed, stands
from tests import oracle
from tests.support import ANY_VALUES, NOT_NAMES, ONE, ORIGIN, Case, nested, spot
from tests.test_sums import NO_KEYS
from tests.test_whole import APART, LANDWARD, SLANTED_TWO, ZEROED, WholeCase

TOLD_FLAT = Space(SLANTED_TWO.without("t", "d"),
                  told=[("same", ("mark", "a"), ("mark", "a")), ("same", ("mark", "a"), ("mark", "b"))])


def bent_papers(paper):
    """The paper with other things at any one place."""
    for at in range(len(paper)):
        for value in ANY_VALUES + NOT_NAMES:
            if value != paper[at]:
                yield paper[:at] + (value,) + paper[at + 1:]
    yield paper[:-1]
    yield paper + ((),)
    yield list(paper)
    yield (paper,)
    yield paper[1:]


class PaperCase(WholeCase):
    def is_paper(self, room, told, value):
        """Whether a tuple with a right shape is a crushed paper, by multiplying its sums out."""
        _, name, side, (x, y), *sums = value
        for axis, total in enumerate(sums):
            parts = [(number, oracle.entry(room, name, axis, at) if side == "spot"
                      else oracle.entry(room, name, at, axis)) for at, number in enumerate((x, y))]
            if oracle.multiplied_out(room, told, total) != oracle.added(*parts):
                return False
        return True

    def other_row(self, space, total):
        """The sum with one weight changed, in a row that is not empty."""
        rows = [key for key, terms in oracle.rows(space.room, space.told()) if terms]
        return sum_plus(total, ((self.rng.choice(rows), ONE),))


class TestCrushedPaper(PaperCase):
    def test_the_example(self):
        paper = crushed_paper(Space(SLANTED_TWO))
        self.assertIs(type(paper), tuple)
        self.same(list(paper)[:4], ["crushed", "s", "spot", (0, 1)])
        self.assertTrue(self.is_paper(SLANTED_TWO, [], paper))
        self.assertIs(is_crushed_paper(Space(SLANTED_TWO), paper), True)

    def test_of_each_side(self):
        for room, head in [(LANDWARD, ("r", "land", (0, 1))), (ZEROED, ("t", "spot", (1, 0))),
                           (APART, ("s", "spot", (1, 0)))]:
            space = Space(room)
            paper = crushed_paper(space=space)
            self.same(paper[:4], ("crushed",) + head)
            self.assertTrue(self.is_paper(room, [], paper))
            self.assertIs(is_crushed_paper(value=paper, space=space), True)
        self.same(crushed_paper(TOLD_FLAT)[:4], ("crushed", "s", "spot", (1, 0)))

    def test_spaces_that_stand(self):
        for space in (Space(Room()), Space(Room(marks=["a"])), Space(Room(Sheet("s", "even"))),
                      Space(SLANTED_TWO.without("s", "d"))):
            self.assertIsNone(crushed_paper(space))

    def test_sums_that_are_empty(self):
        # The second axis of a stretched sheet does not bear on its first row.
        told = [("same", ("spot", "s", ORIGIN), ("spot", "s", spot(0, 1)))]
        space = Space(Room(Sheet("s", "stretched")), told=told)
        paper = crushed_paper(space)
        self.same(paper[:5], ("crushed", "s", "spot", (0, 1), ()))
        self.assertIs(is_crushed_paper(space, paper), True)

    def test_drawn_spaces(self):
        found = []
        for _ in range(100):
            room, told = self.drawn()
            space = Space(room, told=told)
            paper = crushed_paper(space)
            found.append(paper is not None)
            if stands(space):
                self.assertIsNone(paper)
                continue
            name = pressed(space)[0]
            side, direction = press(space, name)
            self.same(paper[:4], ("crushed", name, side, direction))
            self.same(len(paper), 6)
            self.assertTrue(self.is_paper(room, told, paper))
            self.assertIs(is_crushed_paper(space, paper), True)
            self.same(crushed_paper(space), paper)
        self.assertEqual(set(found), {True, False})


class TestIsCrushedPaper(PaperCase):
    def spaces(self):
        return [Space(SLANTED_TWO), Space(LANDWARD), Space(ZEROED), Space(APART), TOLD_FLAT]

    def papers(self, space):
        """Right papers with each pressed sheet, each side and several directions."""
        for name in pressed(space):
            for side in ("spot", "land"):
                for direction in [(1, 0), (0, 1), (1, 1), (2, -3)]:
                    forms = [press_form(space.room, name, side, direction, axis) for axis in (0, 1)]
                    if all(space.follows(form) for form in forms):
                        yield ("crushed", name, side, direction, *map(space.sum_for, forms))

    def test_right_papers(self):
        heads = set()
        for space in self.spaces():
            for paper in self.papers(space):
                self.assertIs(is_crushed_paper(space, paper), True)
                self.assertTrue(self.is_paper(space.room, space.told(), paper))
                heads.add(paper[1:4])
        for head in [("s", "spot", (0, 1)), ("t", "spot", (0, 1)), ("r", "land", (0, 1)),
                     ("t", "spot", (2, -3)), ("t", "land", (1, 1)), ("s", "land", (0, 1))]:
            self.assertIn(head, heads)

    def test_other_sums_with_the_same_form(self):
        spare = Space(SLANTED_TWO, told=[("same", ("mark", "a"), ("mark", "a"))] +
                      [("mix", ("mark", "b"), ((ONE, ("spot", "s", spot(1, 0))),))] * 2)
        paper = crushed_paper(spare)
        for more in (((("told", 0, 0), (5, 3)),), ((("told", 1, 1), ONE), (("told", 2, 1), (-1, 1)))):
            for at in (4, 5):
                other = paper[:at] + (sum_plus(paper[at], more),) + paper[at + 1:]
                self.assertIs(is_crushed_paper(spare, other), True)

    def test_bent_papers(self):
        for space in self.spaces():
            for paper in list(self.papers(space))[:3]:
                for bent in bent_papers(paper):
                    self.assertIs(is_crushed_paper(space, bent), False, bent)
                for at in (4, 5):
                    for total in (self.other_row(space, paper[at]), sum_times(paper[at], (2, 1)),
                                  list(paper[at]), (paper[at],), None,
                                  *[paper[at] + ((key, ONE),) for key in NO_KEYS]):
                        if total != paper[at]:
                            bent = paper[:at] + (total,) + paper[at + 1:]
                            self.assertIs(is_crushed_paper(space, bent), False, bent)

    def test_other_heads(self):
        found = 0
        for space in self.spaces():
            names = space.room.names()
            for paper in list(self.papers(space))[:3]:
                for name in names + ["z", "a"]:
                    for side in ("spot", "land", "Spot", "place", ""):
                        for direction in [(0, 1), (1, 0), (1, 1), (1, -1), (2, -3), (3, 1)]:
                            bent = ("crushed", name, side, direction) + paper[4:]
                            right = (name in names and side in ("spot", "land")
                                     and self.is_paper(space.room, space.told(), bent))
                            self.assertIs(is_crushed_paper(space, bent), right)
                            found += right
        self.assertGreater(found, 5)

    def test_directions(self):
        paper = crushed_paper(Space(ZEROED))
        for direction in [(1, 0), (0, 1), (1, 1), (5, -7)]:
            forms = [press_form(ZEROED, "t", "spot", direction, axis) for axis in (0, 1)]
            sums = tuple(map(Space(ZEROED).sum_for, forms))
            right = ("crushed", "t", "spot", direction) + sums
            self.assertIs(is_crushed_paper(Space(ZEROED), right), True)
            doubled = ("crushed", "t", "spot", tuple(2 * number for number in direction),
                       *[sum_times(total, (2, 1)) for total in sums])
            self.assertTrue(self.is_paper(ZEROED, [], doubled))
            self.assertIs(is_crushed_paper(Space(ZEROED), doubled), False)
            less = ("crushed", "t", "spot", tuple(-number for number in direction),
                    *[sum_times(total, (-1, 1)) for total in sums])
            self.assertTrue(self.is_paper(ZEROED, [], less))
            self.assertIs(is_crushed_paper(Space(ZEROED), less), False)
        nothing = paper[:3] + ((0, 0), (), ())
        self.assertIs(is_crushed_paper(Space(ZEROED), nothing), False)
        for direction in [[1, 0], (1, 0, 0), (1,), (True, 0), (1, False), (ONE, (0, 1)), ((1, 0),),
                          (1, None), ("1", "0"), (0, -1), (-1, 0), (2, 0), (0, 0)]:
            bent = paper[:3] + (direction,) + paper[4:]
            self.assertIs(is_crushed_paper(Space(ZEROED), bent), False, direction)

    def test_any_value(self):
        papers = [crushed_paper(space) for space in self.spaces()]
        for space in self.spaces() + [Space(Room()), Space(Room(Sheet("s", "even")))]:
            for value in ANY_VALUES + NOT_NAMES + [nested(6, papers[0]), "crushed", ("crushed",)]:
                self.assertIs(is_crushed_paper(space, value), False)
            for paper in papers:
                if space.room in (Room(), Room(Sheet("s", "even"))):
                    self.assertIs(is_crushed_paper(space, paper), False)

    def test_papers_of_other_spaces(self):
        paper = crushed_paper(TOLD_FLAT)
        self.assertIs(is_crushed_paper(TOLD_FLAT, paper), True)
        self.assertIs(is_crushed_paper(Space(TOLD_FLAT.room), paper), False)
        self.assertIs(is_crushed_paper(Space(TOLD_FLAT.room, told=TOLD_FLAT.told()[:1]), paper), False)
        paper = crushed_paper(Space(SLANTED_TWO))
        more = Space(SLANTED_TWO.with_mark("x"), told=TOLD_FLAT.told())
        self.assertIs(is_crushed_paper(more, paper), True)
        self.assertIs(is_crushed_paper(Space(SLANTED_TWO.without("t", "d")), paper), False)

    def test_no_paper_in_drawn_spaces_that_stand(self):
        found = 0
        for _ in range(60):
            room, told = self.drawn()
            if not stands(Space(room, told=told)):
                continue
            space, found = Space(room, told=told), found + 1
            for name in room.names():
                for side in ("spot", "land"):
                    value = ("crushed", name, side, (0, 1), (), ())
                    self.assertIs(is_crushed_paper(space, value), False)
        self.assertGreater(found, 5)


if __name__ == "__main__":
    unittest.main()
