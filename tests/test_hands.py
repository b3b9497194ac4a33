"""Hands of sheets and hand papers."""

from fractions import Fraction
import unittest

from lostland.errors import NoLand, UnknownSheet
from lostland.forms import unknowns
from lostland.hands import hand, hand_paper, is_hand_paper
from lostland.lands import land_of
from lostland.rooms import Room
from lostland.sheets import Sheet
from lostland.spaces import Space
from lostland.texts import read_room
from lostland.whole import stands, whole_land
from tests import oracle, papers
from tests.support import ANY_VALUES, BIG, KINDS, NOT_NAMES, ONE, ORIGIN, ZERO, nested, num, spot
from tests.test_judging import JudgeCase
from tests.test_where import EXAMPLE, HINGE
from tests.test_whole import LANDWARD, SLANTED_TWO, ZEROED

TURNED = Space(Room(Sheet("s", "turned")))
ALONG = {"turned": "right", "mirrored": "left", "sized": "right", "even": "right",
         "slanted": "either", "stretched": "either"}


def signs(matrix):
    """The signs of the squares into which a square form parts, by exchanging rows and columns."""
    rows = [list(row) for row in matrix]
    found = []
    while any(any(row) for row in rows):
        many = len(rows)
        at = next((at for at in range(many) if rows[at][at] != 0), None)
        if at is None:
            one, other = next((i, j) for i in range(many) for j in range(many) if rows[i][j] != 0)
            for row in rows:
                row[one] += row[other]
            rows[one] = [x + y for x, y in zip(rows[one], rows[other])]
            continue
        head = rows[at]
        found.append(1 if head[at] > 0 else -1)
        rows = [[row[k] - row[at] * head[k] / head[at] for k in range(many) if k != at]
                for j, row in enumerate(rows) if j != at]
    return found


def expected_hand(room, told, name):
    found = signs(papers.square_matrix(room, told, name))
    if -1 not in found:
        return "right"
    return "either" if 1 in found else "left"


class HandCase(JudgeCase):
    def check(self, space, name):
        room, told = space.room, space.told()
        word = hand(space, name)
        self.same(word, expected_hand(room, told, name))
        paper = hand_paper(space, name)
        self.assertIs(type(paper), tuple)
        self.same(paper[0], word)
        self.assertTrue(papers.is_hand_paper(room, told, name, paper), paper)
        self.assertIs(is_hand_paper(space, name, paper), True)
        self.same(hand_paper(name=name, space=space), paper)
        return paper

    def check_bent(self, space, name, paper, most):
        found = 0
        for value in papers.some_bent(self.rng, paper, most):
            right = papers.is_hand_paper(space.room, space.told(), name, value)
            self.assertIs(is_hand_paper(space, name, value), right, value)
            found += right
        return found


class TestHand(HandCase):
    def test_the_examples(self):
        self.same(hand(Space(EXAMPLE), "t"), "right")
        self.same(hand(name="s", space=Space(EXAMPLE)), "right")
        self.same([hand(Space(HINGE), name) for name in "st"], ["either", "either"])

    def test_each_kind_alone(self):
        for kind in KINDS:
            for readings in ([], [("a", ORIGIN)], [("a", ORIGIN), ("b", spot(1, 2)), ("c", spot(3, 1))]):
                space = Space(Room(Sheet("s", kind, readings), Sheet("t", "even")))
                paper = self.check(space, "s")
                self.same(paper[0], ALONG[kind])
                self.check_bent(space, "s", paper, 150)

    def test_marks_shared_with_others(self):
        texts = [  # a slanted sheet that shows a turned, a mirrored or a stretched one
            ("sheet s slanted\na 0 0\nb 1 0\nc 0 1\nend\nsheet t turned\na 0 0\nb 1 0\nc 1 1\nend\n", "right"),
            ("sheet s slanted\na 0 0\nb 1 0\nc 0 1\nend\nsheet t turned\na 0 0\nc 1 0\nb 1 1\nend\n", "left"),
            ("sheet s slanted\na 0 0\nb 1 0\nc 0 1\nend\nsheet t mirrored\na 0 0\nb 1 0\nc 1 1\nend\n", "left"),
            ("sheet s slanted\na 0 0\nb 1 0\nc 0 1\nend\nsheet t stretched\na 0 0\nb 1 0\nc 1 1\nend\n", "either"),
            ("sheet s slanted\na 0 0\nb 1 0\nc 0 1\nend\nsheet t sized\na 0 0\nb 1 0\nc -3 -1/7\nend\n", "left"),
            ("sheet s slanted\na 0 0\nb 1 0\nend\nsheet t even\na 0 0\nb 1 0\nend\n", "either"),
            ("sheet s stretched\na 0 0\nb 1 1\nend\nsheet t sized\na 0 0\nb 2 -3\nend\n", "left"),
            ("sheet s stretched\na 0 0\nb 1 1\nend\nsheet t even\na 0 0\nb 2 3/2\nend\n", "right"),
            ("sheet s stretched\na 0 0\nb 1 1\nend\nsheet t turned\na 0 0\nb 2 3/2\nend\n", "either"),
            ("sheet s stretched\na 0 0\nb 1 0\nc 0 1\nend\nsheet t turned\na 0 0\nb 2 1\nc 1 -2\nend\n", "left"),
            # tables that are no turned ones times one table: 4 x x + x y + 6 y y, and less than 0
            ("sheet s slanted\na 0 0\nc 1 0\nd 0 1\nend\nsheet t turned\na 0 0\nb 1 0\nc 1 -2\nend\n"
             "sheet p stretched\na 0 0\nb 1 1\nd 2 3\nend\n", "right"),
            ("sheet s slanted\na 0 0\nd 1 0\nc 0 1\nend\nsheet t turned\na 0 0\nb 1 0\nc 1 -2\nend\n"
             "sheet p stretched\na 0 0\nb 1 1\nd 2 3\nend\n", "left"),
            ("sheet s slanted\na 0 0\nc 1 0\nd 0 1\nend\nsheet t turned\na 0 0\nb 1 0\nc 1 0\nend\n"
             "sheet p stretched\na 0 0\nb 1 1\nd 2 3\nend\n", "either")]
        for text, word in texts:
            space = Space(read_room(text))
            paper = self.check(space, "s")
            self.same(paper[0], word)
            self.check(space, "t")
            self.check_bent(space, "s", paper, 100)

    def test_told_claims(self):
        room = read_room("sheet s slanted\nend\n")
        corner = [("spot", "s", place) for place in (ORIGIN, spot(1, 0), spot(0, 1))]
        room = room.with_mark("a").with_mark("b").with_mark("c")
        same = [("same", ("mark", mark), point) for mark, point in zip("abc", corner)]
        self.same(self.check(Space(room, told=same), "s")[0], "either")
        told = same + [("same", ("mark", "a"), ("mark", "a"))]
        turned = room.with_sheet(Sheet("t", "turned", [("a", ORIGIN), ("b", spot(1, 1)), ("c", spot(0, 9))]))
        paper = self.check(Space(turned, told=told), "s")
        self.same(paper[0], "right")
        self.check_bent(Space(turned, told=told), "s", paper, 150)
        self.assertIs(is_hand_paper(Space(turned), "s", paper), False)

    def test_drawn_spaces(self):
        found = {}
        for _ in range(60):
            room, told = self.standing()
            space = Space(room, told=told)
            base = oracle.null_base(room, told)
            for name in room.names():
                word, *rest = self.check(space, name)
                found[word] = found.get(word, 0) + 1
                for _ in range(3):
                    values = oracle.mixed_values(self.rng, base, room)
                    det = oracle.det(oracle.table_at(room, name, values))
                    self.assertTrue(word == "either" or det == 0 or (det > 0) == (word == "right"))
        for word in ("right", "left", "either"):
            self.assertGreater(found[word], 5, found)

    def test_three_parts_no_two_of_which_are_opposite(self):
        # Slanted sheets tied by told claims, whose tables make up a part of all four numbers.
        for _ in range(40):
            many = self.rng.randint(1, 3)
            told = []
            for _ in range(many):
                # One number of the table is a sum of others, as claims of two sheets say it.
                x, y = [spot(self.rng.randint(-3, 3), self.rng.randint(-3, 3)) for _ in range(2)]
                point, other = ("spot", "s", x), ("spot", "t", y)
                told.append(("mix", ("spot", "s", ORIGIN), (
                    (num(-1), ("spot", "t", ORIGIN)), (ONE, point), (ONE, other))))
            room = Room(Sheet("s", "slanted"), Sheet("t", self.rng.choice(["turned", "mirrored", "stretched"])))
            space = Space(room, told=told)
            if stands(space):
                for name in "st":
                    self.check(space, name)

    def test_huge_numbers(self):
        # The two lands lie far apart where one determinant outweighs the other one.
        room = Room(Sheet("s", "stretched", [("a", ORIGIN), ("b", ((1, 1), (1, BIG)))]),
                    Sheet("t", "turned", [("a", ORIGIN), ("b", ((BIG, 1), (1, BIG)))]))
        self.same(self.check(Space(room), "s")[0], "either")
        room = Room(Sheet("s", "slanted", [("a", ORIGIN), ("b", ((BIG, 1), ONE)), ("c", (ONE, ZERO))]),
                    Sheet("t", "turned", [("a", ORIGIN), ("b", ((-BIG, 1), (1, BIG)))]))
        self.same(self.check(Space(room), "s")[0], "either")

    def test_errors(self):
        for space in (Space(HINGE), Space(SLANTED_TWO)):
            for value in ANY_VALUES + NOT_NAMES + ["u", "a", ("s",)]:
                self.fails(UnknownSheet, {"name": value}, hand, space, value)
                self.fails(UnknownSheet, {"name": value}, hand_paper, space, value)
                for paper in (("right", ()), None, (), ("either", None, None)):
                    self.fails(UnknownSheet, {"name": value}, is_hand_paper, space, value, paper)
        for room, name in ((SLANTED_TWO, "s"), (LANDWARD, "r")):
            for own in room.names():
                self.fails(NoLand, {"name": name}, hand, Space(room), own)
                self.fails(NoLand, {"name": name}, hand_paper, Space(room), own)


class TestIsHandPaper(HandCase):
    def test_squares_written_otherwise(self):
        a, c = [(("table", "s", k), ONE) for k in (0, 1)]
        squares = [
            ((ONE, (a,)), (ONE, (c,))), ((ONE, (c,)), (ONE, (a,))),
            (((4, 1), ((a[0], (1, 2)),)), ((1, 9), ((c[0], (-3, 1)),))),
            (((1, 2), (a, c)), ((1, 2), (a, (c[0], (-1, 1))))),
            ((ONE, (a,)), ((1, 3), (c,)), ((2, 3), (c,))), ((ONE, (a,)), (ONE, (c,)), ((5, 1), ())),
            (((1, 25), ((a[0], (3, 1)), (c[0], (4, 1)))), ((1, 25), ((a[0], (4, 1)), (c[0], (-3, 1)))))]
        for right in squares:
            self.assertIs(is_hand_paper(TURNED, "s", ("right", right)), True)
            self.assertIs(is_hand_paper(value=("right", right), name="s", space=TURNED), True)
            self.assertIs(is_hand_paper(TURNED, "s", ("left", right)), False)
            self.assertTrue(papers.is_hand_paper(TURNED.room, [], "s", ("right", right)))
            self.check_bent(TURNED, "s", ("right", right), 200)
        for wrong in ((), ((ONE, (a,)),), ((ONE, (c,)),), ((ONE, (a, c)),), ((ONE, (a,)), (ONE, (a,)), (ONE, (c,))),
                      ((ONE, (a,)), ((2, 1), (c,)), ((-1, 1), (c,))), ((ONE, (a,)), (ONE, (c,)), (ZERO, ())),
                      ((ONE, (a,)), (ONE, (c,)), ((-1, 1), ())), [(ONE, (a,)), (ONE, (c,))],
                      ((ONE, (a,)), [ONE, (c,)]), ((ONE, (a,)), (ONE, [c])), ((ONE, (a,)), (ONE, (list(c),))),
                      ((ONE, (a,)), (1, (c,))), ((ONE, (a,)), (ONE, (c, c))),
                      ((ONE, (a,)), (ONE, ((("table", "s", True), ONE),))),
                      ((ONE, (a,)), (ONE, ((("table", "s", 2), ONE),))),
                      ((ONE, (a,)), (ONE, (c,)), (ONE, ((("scale",), ONE),)))):
            self.assertIs(is_hand_paper(TURNED, "s", ("right", wrong)), False, wrong)
            self.assertFalse(papers.is_hand_paper(TURNED.room, [], "s", ("right", wrong)))

    def test_squares_that_are_right_in_the_lands_alone(self):
        # Forms over other unknowns, which the rows tie to those of the sheet.
        space = Space(EXAMPLE)
        right = hand_paper(space, "t")
        scaled = ("right", tuple(((4 * weight[0], weight[1]), form) for weight, form in right[1]))
        self.assertIs(is_hand_paper(space, "s", right), False)
        quarter = ("right", tuple((num(Fraction(*weight) / 4), form) for weight, form in hand_paper(space, "s")[1]))
        self.assertIs(is_hand_paper(space, "t", quarter), True)
        self.assertIs(is_hand_paper(space, "s", scaled), True)
        self.assertIs(is_hand_paper(space, "t", scaled), False)
        places = [((("place", "a", k), (-1, 1)), (("place", "b", k), ONE)) for k in (0, 1)]
        shown = ("right", tuple((ONE, form) for form in places))
        self.assertIs(is_hand_paper(space, "s", shown), True)
        self.assertTrue(papers.is_hand_paper(EXAMPLE, [], "s", shown))
        self.assertIs(is_hand_paper(Space(EXAMPLE.without("s", "b")), "s", shown), False)

    def test_each_form_of_the_room(self):
        found = unknowns(EXAMPLE)
        paper = hand_paper(Space(EXAMPLE), "s")
        for key in found:
            more = ("right", paper[1] + ((ONE, ((key, ONE),)),))
            self.assertIs(is_hand_paper(Space(EXAMPLE), "s", more), False)

    def test_either(self):
        space = Space(HINGE)
        word, one, other = hand_paper(space, "s")
        self.same(word, "either")
        zero = one.scaled(ZERO)
        away = land_of(Room(*reversed(HINGE.sheets())), moves={"s": ORIGIN, "t": ORIGIN},
                       tables={name: one.motion(name).table.zero() for name in "st"},
                       places={mark: ORIGIN for mark in HINGE.marks()})
        for pair in ((one, one), (other, other), (other, one), (one, zero), (zero, other), (one, away),
                     (away, other), (one, None), (None, other), (one, other, other), (one,), ([one, other],)):
            self.assertIs(is_hand_paper(space, "s", ("either", *pair)), False)
        self.assertIs(is_hand_paper(space, "s", ["either", one, other]), False)
        self.assertIs(is_hand_paper(space, "s", ("right", one, other)), False)
        self.assertIs(is_hand_paper(space, "s", ("either", -one, other.scaled((-5, 3)))), True)
        for value in ANY_VALUES:
            for bent in ((value, one, other), ("either", value, other), ("either", one, value)):
                self.assertIs(is_hand_paper(space, "s", bent), False)
        # A crushing land with a determinant above 0 in the sheet itself is not enough.
        room = read_room("sheet s stretched\nend\nsheet t sized\nend\n")
        lands = [land_of(room, tables={"s": whole_land(Space(Room(Sheet("s", "stretched")))).motion("s").table,
                                       "t": zero.motion("s").table}, moves={"s": ORIGIN, "t": ORIGIN}, places={})]
        word, one, other = hand_paper(Space(room), "s")
        self.assertIs(is_hand_paper(Space(room), "s", (word, one, other)), True)
        for land in lands:
            self.assertIs(is_hand_paper(Space(room), "s", (word, land, other)), False)
            self.assertIs(is_hand_paper(Space(room), "s", (word, one, land)), False)
        told = Space(HINGE, told=[("same", ("mark", "c"), ("mark", "d"))])
        self.assertIs(is_hand_paper(told, "s", hand_paper(space, "s")), False)

    def test_any_value(self):
        for space in (TURNED, Space(HINGE), Space(LANDWARD)):
            name = space.room.names()[0]
            for value in ANY_VALUES + NOT_NAMES + [nested(9, ("right", ())), "right", ("right",), ("left", None)]:
                self.assertIs(is_hand_paper(space, name, value), False)
                for word in ("right", "left", "either"):
                    if value != ():
                        self.assertIs(is_hand_paper(space, name, (word, value)), False)
                        self.assertIs(is_hand_paper(space, name, (word, (value,))), False)
                        self.assertIs(is_hand_paper(space, name, (word, ((ONE, value),))), False)
                        self.assertIs(is_hand_paper(space, name, (word, ((value, ()),))), False)
                    self.assertIs(is_hand_paper(space, name, (word, (), value)), False)

    def test_in_a_space_that_does_not_stand(self):
        for room, name in ((SLANTED_TWO, "s"), (SLANTED_TWO, "t"), (LANDWARD, "r"), (ZEROED, "t")):
            space = Space(room)
            for word in ("right", "left"):
                self.assertIs(is_hand_paper(space, name, (word, ())), True)
                self.assertIs(is_hand_paper(space, name, (word, [])), False)
            self.assertIs(is_hand_paper(space, name, ("either", ())), False)
        self.assertIs(is_hand_paper(Space(LANDWARD), "p", ("right", ())), False)
        self.assertIs(is_hand_paper(Space(LANDWARD), "p", ("either", *Space(LANDWARD).base()[:2])), False)
        square = ("right", ((ONE, ((("move", "s", 0), ONE),)),))
        self.assertIs(is_hand_paper(Space(ZEROED), "t", square), False)
        # A form that is 0 in all lands may be squared, too.
        square = ("right", ((ONE, ((("table", "t", 0), ONE),)),))
        self.assertIs(is_hand_paper(Space(ZEROED), "t", square), True)
        self.assertTrue(papers.is_hand_paper(ZEROED, [], "t", square))

    def test_papers_of_drawn_spaces_for_other_sheets(self):
        for _ in range(25):
            room, told = self.standing()
            space = Space(room, told=told)
            for name in room.names():
                paper = hand_paper(space, name)
                for other in room.names():
                    right = papers.is_hand_paper(room, told, other, paper)
                    self.assertIs(is_hand_paper(space, other, paper), right)
                self.check_bent(space, name, paper, 10)


if __name__ == "__main__":
    unittest.main()
