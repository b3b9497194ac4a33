"""The words of sayings, what surely holds, and bonds."""

from fractions import Fraction
from itertools import permutations
import unittest

from lostland.claims import read_claim, read_saying
from lostland.errors import InvalidClaim, NoLand
from lostland.judging import bond, judge, surely
from lostland.rooms import Room
from lostland.sheets import Sheet
from lostland.spaces import Space
from lostland.texts import read_room
from lostland.where import where
from lostland.whole import stands, whole_land
from tests import oracle
from tests.support import ANY_VALUES, ONE, ORIGIN, ZERO, Case, spot
from tests.test_claims import NO_FORM
from tests.test_where import HINGE
from tests.test_whole import LANDWARD, SLANTED_TWO, WholeCase, press_of

A, B, C, D, M = [("mark", mark) for mark in "abcdm"]
OTHER_WORDS = ("line", "side")


def gap_is_zero(room, told, claim):
    base = oracle.null_base(room, told)
    return all(oracle.value(oracle.gap(room, claim, axis), values) == 0
               for values in base for axis in (0, 1))


def is_sure(room, told, claim):
    """Whether a claim surely holds, by an elimination of the test's own."""
    if claim[0] == "not":
        return oracle.pressed_names(room, told + [claim[1]]) != []
    if claim[0] in OTHER_WORDS:
        quads = [oracle.step_table_at(room, claim, values) for values in oracle.null_base(room, told)]
        return oracle.is_always_flat(quads)
    return gap_is_zero(room, told, claim)


def expected_word(room, told, saying):
    if all(is_sure(room, told, claim) for claim in saying):
        return "surely"
    plains = [claim for claim in saying if claim[0] not in ("not",) + OTHER_WORDS]
    denied = [claim[1] for claim in saying if claim[0] == "not"]
    more = told + plains
    if oracle.pressed_names(room, more) or any(gap_is_zero(room, more, claim) for claim in denied):
        return "never"
    return "unsure" if any(claim[0] in OTHER_WORDS for claim in saying) else "open"


class JudgeCase(WholeCase):
    def standing(self):
        while True:
            room, told = self.drawn()
            if stands(Space(room, told=told)):
                return room, told

    def some_saying(self, room, told):
        """A drawn saying; some of its claims hold in a whole land, or surely."""
        claims = []
        land = whole_land(Space(room, told=told))
        for _ in range(self.rng.randint(1, 3)):
            way = self.rng.random()
            if way < 0.3:
                claims.append(oracle.true_plain(self.rng, room, land))
            elif way < 0.4:
                claims.append(("not", oracle.true_plain(self.rng, room, land)))
            elif way < 0.5 and room.readings():
                name, mark = self.rng.choice(room.readings())
                point = ("spot", name, room.sheet(name).spot(mark))
                claims.append(("same", ("mark", mark), point))
            else:
                claims.append(oracle.some_claim(self.rng, room))
        return claims


class TestJudge(JudgeCase):
    def words(self, room, expected, told=()):
        space = Space(room, told=list(told))
        for text, word in expected.items():
            saying = read_saying(room, text)
            self.same(judge(space, saying), word)
            self.same(expected_word(room, list(told), saying), word)
            self.check_orders(space, saying, word)

    def check_orders(self, space, saying, word):
        """The order of the claims and a claim twice change nothing."""
        for order in permutations(saying):
            self.same(judge(space, order), word)
        if len(saying) < 4:
            for claim in saying:
                self.same(judge(space, saying + [claim]), word)

    def test_the_example(self):
        self.words(HINGE, {
            "middle m a b": "surely", "same a b": "never", "same c d": "open", "line a b c": "unsure",
            "not same a b; line m a b": "surely"})

    def test_one_claim_of_each_word(self):
        self.words(HINGE, {
            "same a a": "surely", "same a t:0:0": "surely", "same m t:1/2:0": "surely",
            "same m t:1/3:0": "never", "same c s:0:1": "open", "same a c": "never",
            "middle a m b": "never", "middle b a s:4:0": "surely", "middle c a d": "open",
            "mix b 2 m -1 a": "surely", "mix b 3 m -2 a": "never", "mix d 1/2 c 1/2 a": "open",
            "line a m b": "surely", "line a m t:9:0": "surely", "line a m d": "unsure",
            "line a a d": "surely", "side a m m b": "surely", "side a b c t:1:1": "surely",
            "side a b d t:1:1": "unsure", "side a d c c": "surely"})

    def test_negations(self):
        self.words(HINGE, {
            # of what surely holds, of what is open and of what never holds
            "not same a a": "never", "not middle m a b": "never", "not same c d": "open",
            "not middle c a d": "open", "not same a b": "surely", "not middle a m b": "surely",
            "not mix b 3 m -2 a": "surely", "not same c d; not same a b": "open",
            "not same c d; not same a a": "never", "not same a b; not same a d": "surely"})

    def test_several_claims(self):
        self.words(HINGE, {
            # Each of two claims may hold, but not both.
            "same c d; same c s:0:2": "never", "same c d; not same c d": "never",
            "same c d; not same d t:0:1": "never", "same c d; not same c s:0:2": "open",
            "same c d; middle m a b": "open", "same c s:0:1; same d t:0:1": "open",
            # line and side beside others
            "line a m d; same a b": "never", "line a m d; same c d": "unsure",
            "line a m b; same c d": "unsure", "line a m d; middle m a b": "unsure",
            "line a m d; not same a b": "unsure", "line a m d; not same a a": "never",
            "line a m b; side a m m b; same a a; not same a b": "surely",
            "line a m d; side a m m d; line c d a; side c d a b": "unsure",
            # A line that no whole land has is still not denied.
            "line a m s:0:1": "unsure", "same c d; line a b c": "unsure"})

    def test_told_claims(self):
        told = [("same", C, ("spot", "s", spot(0, 2)))]
        self.words(HINGE, {"same c s:0:2": "surely", "middle d a c": "surely", "same c d": "never",
                           "not same c d": "surely", "line a c d": "surely"}, told)

    def test_areas_that_only_crush(self):
        # A gap that all whole lands have, but no row tells.
        room = Room(Sheet("s", "even"), marks=["a"])
        a, b = ("spot", "s", ORIGIN), ("spot", "s", spot(1, 0))
        space = Space(room)
        self.same(judge(space, [("not", ("same", a, b))]), "surely")
        self.same(judge(space, [("same", a, b)]), "never")
        self.same(judge(space, [("same", A, a)]), "open")
        self.same(judge(space, [("same", A, a), ("same", A, b)]), "never")
        self.same(judge(space, [("same", A, a), ("not", ("same", A, b))]), "open")

    def test_rooms_without_sheets(self):
        space = Space(Room(marks=["a", "b", "c"]), told=[("same", A, B)])
        for text, word in {"same a b": "surely", "same b c": "open", "not same a b": "never",
                           "not same a c": "open", "line a b c": "surely", "line a c c": "surely",
                           "side a c b c": "surely", "same a c; not same b c": "never"}.items():
            self.same(judge(space, read_saying(space.room, text)), word)

    def test_against_an_elimination(self):
        found = {}
        for _ in range(90):
            room, told = self.standing()
            space = Space(room, told=told)
            for _ in range(2):
                saying = self.some_saying(room, told)
                word = judge(space, saying)
                self.same(word, expected_word(room, told, saying))
                self.same(judge(saying=tuple(saying[::-1]), space=space), word)
                found[word] = found.get(word, 0) + 1
                self.check_lands(space, saying, word)
        for word in ("surely", "never", "unsure", "open"):
            self.assertGreater(found[word], 5)

    def check_lands(self, space, saying, word):
        """The word against whole lands that are drawn."""
        base = oracle.null_base(space.room, space.told())
        for _ in range(3):
            land = oracle.land_from(space.room, oracle.mixed_values(self.rng, base, space.room))
            if land.is_whole:
                holds = all(land.holds(claim) for claim in saying)
                if word == "surely":
                    self.assertTrue(holds)
                if word == "never":
                    self.assertFalse(holds)

    def test_twelve_told_claims(self):
        # Callers may go somewhat beyond 8 told claims.
        room = HINGE
        told = [("same", A, A)] * 12
        for text in ("same c d", "not same a b", "same a b", "line a b c", "middle m a b"):
            saying = read_saying(room, text)
            self.same(judge(Space(room, told=told), saying), judge(Space(room), saying))
            self.assertIs(surely(Space(room, told=told), saying[0]), surely(Space(room), saying[0]))

    def test_arguments_stay(self):
        saying = read_saying(HINGE, "same c d; not same a b")
        copy = list(saying)
        space = Space(HINGE)
        self.same(judge(space, saying), "open")
        self.same(saying, copy)
        self.same(space.told(), [])
        self.same(judge(space, saying), "open")


class TestSurely(JudgeCase):
    def test_against_judge(self):
        for _ in range(60):
            room, told = self.standing()
            space = Space(room, told=told)
            for claim in self.some_saying(room, told):
                expected = is_sure(room, told, claim)
                self.assertIs(surely(space, claim), expected)
                self.assertIs(surely(claim=claim, space=space), expected)
                self.assertIs(judge(space, [claim]) == "surely", expected)


class TestBond(JudgeCase):
    def test_ratios(self):
        space = Space(HINGE)
        for text, expected in {
                "line m a b": ("ratio", (1, 1)), "line a m b": ("ratio", (2, -1)),
                "line a b m": ("ratio", (1, -2)), "line a a b": ("ratio", (1, 0)),
                "line a b a": ("ratio", (0, 1)), "line a a a": ("ratio", (1, 0)),
                "line a b c": None, "side a m m b": ("ratio", (1, -1)),
                "side a b t:0:0 t:2/3:0": ("ratio", (2, -3)), "side a b c t:0:2": None,
                "side a a b b": ("ratio", (1, 0)), "side a b b b": ("ratio", (0, 1))}.items():
            self.same(bond(space, read_claim(HINGE, text)), expected)

    def test_directions(self):
        space = Space(LANDWARD.without("r", "c"))
        self.assertIs(stands(space), True)
        for text, expected in {
                "line a b c": ("direction", (0, 1)), "side p:0:0 p:1:0 q:0:0 q:1:0": ("direction", (0, 1)),
                "side p:0:0 p:0:1 q:0:0 q:0:2": ("direction", (1, 0)),
                "side p:0:0 p:1:1 q:0:0 q:1:1": None, "line a b b": ("ratio", (1, -1)),
                "side a a q:0:0 q:1:0": ("ratio", (1, 0))}.items():
            claim = read_claim(space.room, text)
            self.same(bond(claim=claim, space=space), expected)
            self.assertIs(surely(space, claim), expected is not None)

    def test_steps_that_are_always_zero(self):
        room = Room(marks=["a", "b", "c", "d"])
        space = Space(room, told=[("same", A, B), ("same", C, D)])
        self.same(bond(space, ("side", A, B, C, D)), ("ratio", (1, 0)))
        self.same(bond(space, ("side", A, B, A, C)), ("ratio", (1, 0)))
        self.same(bond(space, ("side", A, C, A, B)), ("ratio", (0, 1)))
        self.same(bond(space, ("side", A, C, B, D)), ("ratio", (1, -1)))
        self.same(bond(space, ("line", A, B, B)), ("ratio", (1, 0)))

    def test_against_an_elimination(self):
        found = {}
        for _ in range(100):
            room, told = self.standing()
            space = Space(room, told=told)
            base = oracle.null_base(room, told)
            for claim in [self.some_steps(room) for _ in range(5)]:
                expected = press_of([oracle.step_table_at(room, claim, values) for values in base])
                if expected is not None:
                    expected = ({"spot": "ratio", "land": "direction"}[expected[0]], expected[1])
                self.same(bond(space, claim), expected)
                self.assertIs(surely(space, claim), expected is not None)
                word = expected and expected[0]
                found[word] = found.get(word, 0) + 1
                if room.is_free:
                    self.assertNotEqual(word, "direction")
                self.check_lands(room, claim, expected, base)
        for word in (None, "ratio", "direction"):
            self.assertGreater(found[word], 2, found)

    def some_steps(self, room):
        """A drawn claim line or side, often of points of one line of one sheet."""
        name = self.rng.choice(room.names())
        x = spot(self.rng.randint(-1, 1), self.rng.randint(-1, 1))
        points = [oracle.some_point(self.rng, room) for _ in range(4)]
        if self.rng.random() < 0.6:
            points = [("spot", name, (x[0], (self.rng.randint(-2, 2), 1))) for _ in range(4)]
            if self.rng.random() < 0.5:
                other = self.rng.choice(room.names())
                points[2:] = [("spot", other, (ZERO, ZERO)), ("spot", other, (ZERO, ONE))]
        return ("line", *points[:3]) if self.rng.random() < 0.4 else ("side", *points)

    def check_lands(self, room, claim, expected, base):
        if expected is None:
            return
        word, (s, t) = expected
        for values in base:
            first, second = [[oracle.value(one, values) for one in pair]
                             for pair in oracle.steps(room, claim)]
            if word == "ratio":
                sums = [s * one + t * other for one, other in zip(first, second)]
            else:
                sums = [s * step[0] + t * step[1] for step in (first, second)]
            self.assertEqual(sums, [Fraction(0), Fraction(0)])

    def test_known_spots_and_lines_in_free_rooms(self):
        # A mark is known to the spot or to no line.
        for _ in range(40):
            room, land = oracle.drawn(self.rng, oracle.some_kinds(self.rng, 3, oracle.FREE), 4, often=0.7)
            space = Space(room)
            for mark in room.marks():
                for name in room.names():
                    known = where(space, ("mark", mark), on=name)
                    claim = ("line", ("mark", mark), ("spot", name, ORIGIN), ("spot", name, spot(1, 0)))
                    on_line = known is not None and known[1] == ZERO
                    self.assertIs(surely(space, claim), on_line)


class TestErrors(JudgeCase):
    def test_no_saying_comes_ahead_of_no_land(self):
        for space in (Space(HINGE), Space(SLANTED_TWO)):
            for value in ANY_VALUES + [[], (), "same a b", [("same", A, A)] * 5]:
                at = 0 if isinstance(value, (list, tuple)) and 1 <= len(value) <= 4 else -1
                self.fails(InvalidClaim, {"at": at, "why": "form"}, judge, space, value)
            good = ("same", A, B)
            away, heavy = ("same", A, ("mark", "z")), ("mix", A, ((ZERO, B),))
            for at in range(4):
                for value, why in [(away, "point"), (heavy, "weights"), (("not", ("line", A, B, C)), "form")]:
                    saying = [good] * at + [value] + [None] * (3 - at)
                    self.fails(InvalidClaim, {"at": at, "why": why}, judge, space, saying)

    def test_no_claim_comes_ahead_of_no_land(self):
        for space in (Space(HINGE), Space(SLANTED_TWO)):
            for call in (surely, bond):
                for value in ANY_VALUES + NO_FORM + ["same a b", [("same", A, B)]]:
                    self.fails(InvalidClaim, {"at": 0, "why": "form"}, call, space, value)
                for value, why in [(("line", A, B, ("mark", "z")), "point"),
                                   (("same", A, ("mark", "z")), "point"),
                                   (("mix", A, ((ZERO, B),)), "weights")]:
                    self.fails(InvalidClaim, {"at": 0, "why": why}, call, space, value)
            for claim in (("same", A, B), ("middle", A, B, C), ("mix", A, ((ONE, B),)),
                          ("not", ("same", A, B))):
                self.fails(InvalidClaim, {"at": 0, "why": "form"}, bond, space, claim)

    def test_no_land(self):
        for room, name in ((SLANTED_TWO, "s"), (LANDWARD, "r")):
            space = Space(room)
            for claim in (("same", A, A), ("not", ("same", A, A)), ("line", A, B, C)):
                self.fails(NoLand, {"name": name}, judge, space, [claim])
                self.fails(NoLand, {"name": name}, surely, space, claim)
            self.fails(NoLand, {"name": name}, bond, space, ("line", A, A, A))
            self.fails(NoLand, {"name": name}, bond, space, ("side", A, A, A, B))

    def test_the_same_call_twice(self):
        room = read_room("sheet s turned\na 0 0\nb 1 0\nend\n")
        space = Space(room)
        claim = ("line", A, B, ("spot", "s", spot(3, 0)))
        self.same(bond(space, claim), bond(space, claim))
        self.same(bond(space, claim), ("ratio", (3, -1)))


if __name__ == "__main__":
    unittest.main()
