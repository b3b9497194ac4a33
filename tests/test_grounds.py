"""Judge papers and grounds, held against an independent judge of papers."""

import unittest

from lostland.claims import read_claim, read_saying
from lostland.errors import InvalidClaim, NoLand
from lostland.grounds import is_ground, is_judge_paper, judge_paper
from lostland.judging import bond, judge
from lostland.lands import land_of
from lostland.presses import crushed_paper, is_crushed_paper
from lostland.rooms import Room
from lostland.sheets import Sheet
from lostland.spaces import Space
from lostland.sums import sum_plus, sum_times
from lostland.texts import read_room
from lostland.whole import stands
from tests import oracle, papers
from tests.support import ANY_VALUES, ONE, ORIGIN, ZERO, nested, spot
from tests.test_claims import NO_FORM
from tests.test_judging import JudgeCase
from tests.test_where import HINGE
from tests.test_whole import LANDWARD, SLANTED_TWO

A, B, C, D, M = [("mark", mark) for mark in "abcdm"]
SURE = ["middle m a b", "same a t:0:0", "mix b 2 m -1 a", "not same a b", "not middle a m b", "line m a b",
        "side a b t:0:0 t:2/3:0", "line a a d", "same a a; line m a b; not same a b; same a t:0:0",
        "not same a b; line m a b"]
NEVER = ["same a b", "middle a m b", "same c d; not same c d", "not same a a", "not middle m a b",
         "line a m d; not same a a", "same c d; not same d t:0:1", "same c d; same c s:0:2"]
OPEN = ["same c d", "not same c d", "same c d; not same c s:0:2", "same c d; middle m a b",
        "not same c d; not same a b", "same c s:0:1; same d t:0:1", "not same c d; not middle c a d"]
UNSURE = ["line a b c", "line a m d; same c d", "line a m d; not same a b", "side a b c d; same c d",
          "line a m s:0:1", "line a m b; same c d", "not same c d; line m a b"]


class PaperCase(JudgeCase):
    def check_paper(self, space, saying):
        """The paper of a saying is right, by the test's own multiplying out."""
        room, told = space.room, space.told()
        paper = judge_paper(space, saying)
        self.assertIs(type(paper), tuple)
        self.same(paper[0], judge(space, saying))
        self.assertTrue(papers.is_judge_paper(room, told, list(saying), paper), (saying, paper))
        self.assertIs(is_judge_paper(space, saying, paper), True)
        self.same(judge_paper(saying=saying, space=space), paper)
        if paper[0] == "surely":
            for claim, ground in zip(saying, paper[1:]):
                self.assertIs(is_ground(space, claim, ground), True)
                if claim[0] in ("line", "side"):
                    self.same(ground[:2], bond(space, claim))
        if paper[0] == "never":
            plains = [claim for claim in saying if claim[0] in ("same", "middle", "mix")]
            more = Space(room, told=told + plains)
            self.same(paper[1][0], "follows" if stands(more) else "crushed")
        return paper

    def check_bent(self, space, saying, paper, most):
        """Bent papers are judged as the test's own judge does; some of them are right."""
        for value in papers.some_bent(self.rng, paper, most):
            right = papers.is_judge_paper(space.room, space.told(), list(saying), value)
            self.assertIs(is_judge_paper(space, saying, value), right, value)


class TestJudgePaper(PaperCase):
    def test_of_each_word(self):
        space = Space(HINGE)
        for word, texts in (("surely", SURE), ("never", NEVER), ("open", OPEN), ("unsure", UNSURE)):
            for text in texts:
                saying = read_saying(HINGE, text)
                paper = self.check_paper(space, saying)
                self.same(paper[0], word)
                self.check_bent(space, saying, paper, 120)
                self.check_paper(space, tuple(saying[::-1]))

    def test_forms_of_papers(self):
        space = Space(HINGE)
        word, *grounds = judge_paper(space, read_saying(HINGE, SURE[8]))
        self.same([ground[0] for ground in grounds], ["rows", "ratio", "crushed", "rows"])
        self.same([len(ground) for ground in grounds], [3, 4, 6, 3])
        self.same(grounds[0], ("rows", (), ()))
        self.same(grounds[1][1], (1, 1))
        word, land, other = judge_paper(space, read_saying(HINGE, "same c d"))
        self.assertIs(land.holds(("same", C, D)), True)
        self.assertIs(other.holds(("same", C, D)), False)
        word, land = judge_paper(space, read_saying(HINGE, "line a b c; same c d"))
        self.assertIs(land.holds(("line", A, B, C)) and land.holds(("same", C, D)), False)

    def test_never_by_a_crushed_paper_and_by_what_follows(self):
        space = Space(HINGE)
        saying = read_saying(HINGE, "not same c d; same c d; line a b d; same a m")
        word, paper = self.check_paper(space, saying)
        self.same(paper[0], "crushed")
        more = Space(HINGE, told=[("same", C, D), ("same", A, M)])
        self.assertIs(is_crushed_paper(more, paper), True)
        saying = saying[:3]
        word, paper = self.check_paper(space, saying)
        self.same(paper[:2], ("follows", 0))
        # Of several claims that follow, the index of any one is right.
        saying = read_saying(HINGE, "same c d; not same c d; line a b d; not same a t:0:0")
        word, paper = self.check_paper(space, saying)
        more = Space(HINGE, told=[("same", C, D)])
        for at in range(4):
            sums = []
            if saying[at][0] == "not":
                sums = [more.sum_for(oracle.as_form(gap)) for gap in papers.gaps(HINGE, saying[at][1])]
            for index in (at, -1, at - 4, at + 4, at == 1, str(at), None, (at,), (at, 1)):
                value = ("never", ("follows", index, *sums))
                right = papers.is_number_at(index, (1, 3)) and index == at
                self.assertIs(is_judge_paper(space, saying, value), right)

    def test_never_by_a_later_negation(self):
        space = Space(HINGE)
        for text, at in (("not same a b; same c d; not same c d", 2), ("not same c s:0:2; not same a a", 1),
                         ("line a m d; not same a d; same a a; not middle m a b", 3)):
            saying = read_saying(HINGE, text)
            self.same(self.check_paper(space, saying)[1][:2], ("follows", at))

    def test_lands_that_crush_a_sheet_on_the_way(self):
        # Sums of a whole land and another one may crush a sheet before they deny the claim.
        room = read_room("sheet s sized\na 0 0\nend\nsheet t sized\na 0 0\nend\nsheet u sized\na 0 0\nend\n")
        told = [read_claim(room, "mix s:1:0 1 t:1:0 -1 u:1:0 1 a")]
        for x in range(-4, 5):
            for y in (1, 2, 3):
                for text in (f"not same t:{x}:0 u:{y}:0", f"same t:{x}:0 u:{y}:0", f"line s:{x}:1 t:{y}:0 u:1:0"):
                    saying = read_saying(room, text)
                    self.check_paper(Space(room, told=told), saying)

    def test_follows_in_a_space_that_is_pressed_by_the_saying(self):
        # [22] asks for no space that stands behind follows.
        space = Space(HINGE)
        saying = read_saying(HINGE, "same a b; not same a b")
        sums = [((("told", 0, axis), ONE),) for axis in (0, 1)]
        self.assertIs(is_judge_paper(space, saying, ("never", ("follows", 1, *sums))), True)
        self.same(judge_paper(space, saying)[1][0], "crushed")

    def test_bonds_with_a_direction(self):
        space = Space(LANDWARD.without("r", "c"))
        for text in ("line a b c", "side p:0:0 p:1:0 q:0:0 q:1:0", "side p:0:0 p:0:1 q:0:0 q:0:2"):
            claim = read_claim(space.room, text)
            paper = self.check_paper(space, [claim])
            self.same(paper[1][0], "direction")
            self.check_bent(space, [claim], paper, 200)
            word, (x, y), *sums = paper[1]
            for axis in (0, 1):
                self.assertNotEqual((word, (x, y), *sums), ("ratio", (x, y), *sums))
            self.assertIs(is_ground(space, claim, ("ratio", (x, y), *sums)), False)

    def test_told_claims(self):
        told = [("same", A, A), ("same", C, ("spot", "s", spot(0, 2)))]
        space = Space(HINGE, told=told)
        for text in ("middle d a c", "not same c d", "line a c d", "same c d", "same c s:0:2; not same a m",
                     "not middle d a c", "line a b c; same c d", "not same c s:0:2"):
            saying = read_saying(HINGE, text)
            paper = self.check_paper(space, saying)
            self.check_bent(space, saying, paper, 150)
            self.assertIs(is_judge_paper(Space(HINGE), saying, paper), False, text)

    def test_rooms_without_sheets(self):
        space = Space(Room(marks=["a", "b", "c"]), told=[("same", A, B)])
        for text in ("same a b", "same b c", "not same a b", "not same a c", "line a b c", "side a c b c",
                     "same a c; not same b c", "not same a c; not same b c"):
            self.check_paper(space, read_saying(space.room, text))

    def test_drawn_sayings(self):
        found = {}
        for _ in range(60):
            room, told = self.standing()
            space = Space(room, told=told)
            for _ in range(3):
                saying = self.some_saying(room, told)
                paper = self.check_paper(space, saying)
                kind = paper[1][0] if paper[0] == "never" else paper[0]
                found[kind] = found.get(kind, 0) + 1
                self.check_bent(space, saying, paper, 12)
        for kind in ("surely", "crushed", "follows", "unsure", "open"):
            self.assertGreater(found[kind], 1, found)

    def test_eight_told_claims(self):
        told = [("same", A, A)] * 6 + [("middle", M, A, B), ("same", A, ("spot", "t", ORIGIN))]
        space = Space(HINGE, told=told)
        for text in ("same a s:1:1; same b s:1:1; same m s:5:5; same d t:0:1", "same c d; not same a b",
                     "middle m a b; same a a; not same a b; line m a b"):
            self.check_paper(space, read_saying(HINGE, text))

    def test_several_denied_claims(self):
        # The whole land must keep clear of each of them.
        room = Room(Sheet("s", "sized"), marks=["a", "b", "c"])
        space = Space(room)
        texts = ["not same a b; not same b c; not same a c; not middle a b c",
                 "not same a s:0:0; not same a s:1:0; not same a s:2:0; not same a s:3:0",
                 "same a b; not same b c; not same a s:0:0; not same c s:0:0",
                 "not same a b; not middle c a b; not mix c 2 a -1 b; not mix c -1 a 2 b"]
        for text in texts:
            self.same(self.check_paper(space, read_saying(room, text))[0], "open")


class TestIsGround(PaperCase):
    def test_bent_grounds(self):
        space = Space(HINGE, told=[("same", A, A)])
        for text in SURE[:8]:
            claim = read_claim(HINGE, text)
            ground = judge_paper(space, [claim])[1]
            self.assertIs(is_ground(space, claim, ground), True)
            self.assertIs(is_ground(value=ground, claim=claim, space=space), True)
            for value in papers.some_bent(self.rng, ground, 250):
                right = papers.is_ground(HINGE, space.told(), claim, value)
                self.assertIs(is_ground(space, claim, value), right, value)
            for other in SURE[:8]:
                own = read_claim(HINGE, other)
                right = papers.is_ground(HINGE, space.told(), own, ground)
                self.assertIs(is_ground(space, own, ground), right)
                self.assertIs(is_judge_paper(space, [own], ("surely", ground)), right)

    def test_other_sums_with_the_same_form(self):
        space = Space(HINGE, told=[("same", A, A)])
        more = ((("told", 0, 1), (-7, 3)),)
        for text in SURE[:8]:
            claim = read_claim(HINGE, text)
            ground = judge_paper(space, [claim])[1]
            for at in range(len(ground) - 2, len(ground)):
                other = ground[:at] + (sum_plus(ground[at], more),) + ground[at + 1:]
                self.assertIs(is_ground(space, claim, other), True)
                doubled = ground[:at] + (sum_times(other[at], (2, 1)),) + ground[at + 1:]
                right = papers.is_ground(HINGE, space.told(), claim, doubled)
                self.assertIs(is_ground(space, claim, doubled), right)

    def test_other_right_directions(self):
        # Both steps are always zero, so that each direction is right.
        space = Space(HINGE, told=[("same", C, C)])
        claim = ("side", A, A, B, B)
        for word in ("ratio", "direction"):
            for across in ((1, 0), (0, 1), (3, -5), (7, 2)):
                self.assertIs(is_ground(space, claim, (word, across, (), ())), True)
            for across in ((0, 0), (2, 4), (-1, 1), (0, -1), (True, 0), (1, False), [1, 0], ONE + ONE, None,
                           (1, 0, 0), ((1, 0),), "10", (ONE, ZERO)):
                self.assertIs(is_ground(space, claim, (word, across, (), ())), False, across)
        self.assertIs(is_ground(space, claim, ("rows", (), ())), False)
        self.assertIs(is_ground(space, claim, ("side", (1, 0), (), ())), False)
        # A line that has a ratio and a direction.
        room = Room(Sheet("p", "stretched"), marks=["a"])
        space = Space(room, told=[("same", A, ("spot", "p", ORIGIN))])
        claim = read_claim(room, "line a p:1:0 p:2:0")
        self.same(judge_paper(space, [claim])[1][:2], ("ratio", (2, -1)))
        rows = tuple((("told", 0, 1), weight) for weight in [(-1, 1)])
        self.assertIs(is_ground(space, claim, ("direction", (0, 1), rows, rows)), True)
        self.assertIs(is_ground(space, claim, ("direction", (1, 0), rows, rows)), False)
        self.assertIs(is_ground(space, claim, ("direction", (0, 1), rows, ())), False)

    def test_any_value(self):
        for space in (Space(HINGE), Space(SLANTED_TWO)):
            for claim in (("same", A, B), ("line", A, B, C), ("not", ("same", A, B))):
                for value in ANY_VALUES + [nested(9, ("rows", (), ())), ("rows",), ("ratio", (1, 0)), "rows"]:
                    self.assertIs(is_ground(space, claim, value), False)
                    self.assertIs(is_judge_paper(space, [claim], value), False)
                    for word in ("surely", "never", "open", "unsure"):
                        self.assertIs(is_judge_paper(space, [claim], (word, value)), False)
                        self.assertIs(is_judge_paper(space, (claim,), (word, value, value)), False)
                        self.assertIs(is_judge_paper(space, [claim], (value, word)), False)

    def test_lands_that_are_none_of_the_space(self):
        space = Space(HINGE)
        saying = read_saying(HINGE, "same c d")
        word, land, other = judge_paper(space, saying)
        away = land_of(Room(*reversed(HINGE.sheets())), moves={"s": ORIGIN, "t": ORIGIN},
                       tables={name: land.motion(name).table.zero() for name in "st"},
                       places={mark: ORIGIN for mark in HINGE.marks()})
        zero = land.scaled(ZERO)
        for value in ((land, zero), (zero, other), (land, away), (away, other), (other, land), (land, land),
                      (other, other), (land,), (land, other, other), ([land, other],)):
            self.assertIs(is_judge_paper(space, saying, ("open", *value)), False)
        self.assertIs(is_judge_paper(space, saying, ["open", land, other]), False)
        self.assertIs(is_judge_paper(space, saying, ("unsure", other)), False)
        self.assertIs(is_judge_paper(space, saying, ("open", land.scaled((3, 1)), other + other)), True)
        told = space.with_told(("same", C, ("spot", "s", spot(5, 9))))
        self.assertIs(is_judge_paper(told, saying, ("open", land, other)), False)
        line = read_saying(HINGE, "line a b c")
        word, land = judge_paper(space, line)
        self.assertIs(is_judge_paper(space, line, ("unsure", land)), True)
        self.assertIs(is_judge_paper(space, line, ("open", land, land)), False)
        self.assertIs(is_judge_paper(space, line, ("unsure", land.scaled(ZERO))), False)
        self.assertIs(is_judge_paper(space, line, ("unsure", land, land)), False)
        self.assertIs(is_judge_paper(space, line, ("unsure",)), False)


class TestErrors(PaperCase):
    def test_in_a_space_that_does_not_stand(self):
        space = Space(SLANTED_TWO)
        saying = read_saying(SLANTED_TWO, "same a s:0:0")
        sums = [space.sum_for(oracle.as_form(gap)) for gap in papers.gaps(SLANTED_TWO, saying[0])]
        paper = ("surely", ("rows", *sums))
        self.assertIs(is_judge_paper(space, saying, paper), True)
        self.assertIs(is_ground(space, saying[0], paper[1]), True)
        self.assertIs(is_ground(space, ("not", ("same", A, B)), crushed_paper(space)), True)
        self.assertIs(is_judge_paper(space, saying, ("never", crushed_paper(space))), True)
        self.assertIs(is_judge_paper(space, saying, ("open", *space.base()[:2])), False)
        # The same saying is also shown to hold never, as there is no whole land at all.
        never = ("never", ("follows", 1, *sums))
        self.assertIs(is_judge_paper(space, saying + [("not", saying[0])], never), True)

    def test_no_saying_comes_ahead_of_no_land(self):
        good, away, heavy = ("same", A, B), ("same", A, ("mark", "z")), ("mix", A, ((ZERO, B),))
        for space in (Space(HINGE), Space(SLANTED_TWO)):
            for value in ANY_VALUES + [[], (), "same a b", [("same", A, A)] * 5]:
                at = 0 if isinstance(value, (list, tuple)) and 1 <= len(value) <= 4 else -1
                told = {"at": at, "why": "form"}
                self.fails(InvalidClaim, told, judge_paper, space, value)
                self.fails(InvalidClaim, told, is_judge_paper, space, value, ())
            for at in range(4):
                for value, why in [(away, "point"), (heavy, "weights"), (None, "form")]:
                    saying = [good] * at + [value] + [None] * (3 - at)
                    self.fails(InvalidClaim, {"at": at, "why": why}, judge_paper, space, saying)
                    self.fails(InvalidClaim, {"at": at, "why": why}, is_judge_paper, space, saying, None)
            for value in ANY_VALUES + NO_FORM + ["same a b", [good]]:
                self.fails(InvalidClaim, {"at": 0, "why": "form"}, is_ground, space, value, None)
            self.fails(InvalidClaim, {"at": 0, "why": "point"}, is_ground, space, away, None)
            self.fails(InvalidClaim, {"at": 0, "why": "weights"}, is_ground, space, ("not", heavy), None)

    def test_no_land(self):
        for room, name in ((SLANTED_TWO, "s"), (LANDWARD, "r")):
            for claim in (("same", A, A), ("not", ("same", A, A)), ("line", A, B, C)):
                self.fails(NoLand, {"name": name}, judge_paper, Space(room), [claim])

    def test_arguments_stay(self):
        saying = read_saying(HINGE, "same c d; not same a b")
        copy, space = list(saying), Space(HINGE)
        judge_paper(space, saying)
        is_judge_paper(space, saying, None)
        self.same(saying, copy)
        self.same(space.told(), [])


if __name__ == "__main__":
    unittest.main()
