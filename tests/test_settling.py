"""Pairs that are seen in a land, and the fewest of them that settle a saying."""

from itertools import combinations
import unittest

from lostland.claims import read_saying
from lostland.errors import InvalidClaim, InvalidLand, InvalidReading, TooMany
from lostland.judging import judge
from lostland.lands import land_of
from lostland.rooms import Room
from lostland.settling import settle, with_seen
from lostland.sheets import Sheet
from lostland.spaces import Space
from lostland.texts import read_room
from lostland.whole import stands, whole_land
from tests import oracle, papers
from tests.support import ANY_VALUES, NOT_NAMES, ORIGIN, ZERO, num, spot, table
from tests.test_claims import NO_FORM
from tests.test_judging import JudgeCase, expected_word
from tests.test_where import HINGE
from tests.test_whole import SLANTED_TWO

A, B, C, D, M = [("mark", mark) for mark in "abcdm"]
SETTLED = ("surely", "never")
TWO = read_room("sheet s slanted\na 0 0\nb 1 0\nc 0 1\nend\nsheet t turned\na 0 0\nb 1 0\nend\nmark d\nmark e\n")


def spot_at(land, name, mark):
    """The spot of a mark on a sheet in a whole land, by solving for it."""
    values = papers.values_of(land)
    (a, b), (c, d) = oracle.table_at(land.room, name, values)
    x, y = [values["place", mark, axis] - values["move", name, axis] for axis in (0, 1)]
    det = a * d - b * c
    return (num((d * x - b * y) / det), num((a * y - c * x) / det))


class SettleCase(JudgeCase):
    def unread(self, room):
        """The pairs that can be seen."""
        return [(name, mark) for name in room.names() for mark in room.marks()
                if mark not in room.sheet(name)]

    def drawn_land(self, space):
        """A drawn whole land of a space that stands."""
        base = oracle.null_base(space.room, space.told())
        for _ in range(30):
            land = oracle.land_from(space.room, oracle.mixed_values(self.rng, base, space.room))
            if land.is_whole:
                return land
        return whole_land(space)

    def seen(self, space, land, pairs):
        """The room with the pairs seen, built by the test."""
        sheets = []
        for sheet in space.room.sheets():
            more = [(mark, spot_at(land, name, mark)) for name, mark in pairs if name == sheet.name]
            sheets.append(Sheet(sheet.name, sheet.kind, sheet.readings() + more))
        return Room(*sheets, marks=space.room.marks())

    def brute(self, space, saying, land, among):
        """The fewest pairs by trying all lists of them."""
        for size in range(len(among) + 1):
            for chosen in combinations(range(len(among)), size):
                pairs = [among[at] for at in chosen]
                room = self.seen(space, land, pairs)
                if expected_word(room, space.told(), saying) in SETTLED:
                    return pairs
        return None


class TestWithSeen(SettleCase):
    def test_one_and_several_pairs(self):
        space = Space(TWO)
        land = whole_land(space)
        self.assertEqual(with_seen(space, land, []).room, TWO)
        pairs = [("t", "e"), ("s", "e"), ("t", "c"), ("t", "d")]
        found = with_seen(pairs=pairs, land=land, space=space)
        self.assertIs(type(found), Space)
        self.same(found.room.sheet("t").marks(), ["a", "b", "e", "c", "d"])
        self.same(found.room.sheet("s").marks(), ["a", "b", "c", "e"])
        self.assertEqual(found.room, self.seen(space, land, pairs))
        self.assertIs(found.has(land), False)
        self.assertIs(stands(found), True)
        self.same(pairs, [("t", "e"), ("s", "e"), ("t", "c"), ("t", "d")])
        self.assertEqual(with_seen(space, land, tuple(pairs)).room, found.room)
        self.assertEqual(space.room, TWO)

    def test_drawn_spaces(self):
        for _ in range(50):
            room, told = self.standing()
            space = Space(room, told=told)
            land = self.drawn_land(space)
            pairs = self.unread(room)
            self.rng.shuffle(pairs)
            pairs = pairs[:self.rng.randint(0, 6)]
            found = with_seen(space, land, pairs)
            self.assertEqual(found.room, self.seen(space, land, pairs))
            self.same(found.told(), told)
            # The land is one of the space with the pairs seen, by all its values.
            places = {mark: land.place(("mark", mark)) for mark in room.marks()}
            motions = {name: land.motion(name) for name in room.names()}
            same = land_of(found.room, places=places, moves={n: m.move for n, m in motions.items()},
                           tables={n: m.table for n, m in motions.items()})
            self.assertIs(found.has(same), True)
            self.assertIs(found.is_within(space), True)

    def test_no_whole_land(self):
        for space in (Space(HINGE), Space(SLANTED_TWO)):
            for value in ANY_VALUES + [space, whole_land(Space(TWO)), whole_land(Space(HINGE)).scaled(ZERO)]:
                self.fails(InvalidLand, {}, with_seen, space, value, [])
                self.fails(InvalidLand, {}, with_seen, space, value, None)
                self.fails(InvalidLand, {}, settle, space, [("same", A, A)], land=value, among=None)
        for land in Space(SLANTED_TWO).base():
            self.fails(InvalidLand, {}, with_seen, Space(SLANTED_TWO), land, [])
        land = whole_land(Space(HINGE))
        self.fails(InvalidLand, {}, with_seen, Space(HINGE, told=[("same", C, D)]), land, [])
        self.fails(InvalidLand, {}, with_seen, Space(Room(*reversed(HINGE.sheets()))), land, [])

    def test_wrong_pairs(self):
        space = Space(TWO)
        land = whole_land(space)
        good = [("s", "d"), ("t", "d"), ("s", "e")]
        for value in ANY_VALUES:
            if not isinstance(value, (list, tuple)):
                self.fails(InvalidReading, {"at": -1}, with_seen, space, land, value)
                self.fails(InvalidReading, {"at": -1}, settle, space, [("same", A, A)], land=land, among=value)
        wrong = ANY_VALUES + NOT_NAMES + [
            ("s", "a"), ("t", "b"), ("u", "d"), ("s", "z"), ("d", "s"), ["s", "d"], ("s", "d", "e"), ("s",),
            ("s", ("mark", "d")), (("s",), "d"), ("s", None), (None, "d"), ("s", "d"), ("t", "d"), ("s", "e")]
        for value in wrong:
            for pairs in (good + [value], good + [value, None], tuple(good) + (value,)):
                self.fails(InvalidReading, {"at": 3}, with_seen, space, land, pairs)
                self.fails(InvalidReading, {"at": 3}, settle, space, [("same", A, A)], land=land, among=pairs)
        self.fails(InvalidReading, {"at": 0}, with_seen, space, land, [("s", "a"), ("s", "d"), ("s", "d")])
        self.fails(InvalidReading, {"at": 1}, with_seen, space, land, [("s", "d"), ("s", "d"), ("s", "a")])
        for many in (7, 8, 100):
            for value in (None, ("s", "d")):
                self.fails(TooMany, {"most": 6}, with_seen, space, land, [value] * many)
                self.fails(TooMany, {"most": 6}, settle, space, [("same", A, A)], land=land, among=(value,) * many)
        self.fails(InvalidReading, {"at": 0}, with_seen, space, land, [None] * 6)

    def test_several_things_wrong_at_once(self):
        space = Space(TWO)
        land = whole_land(space)
        saying = [("same", A, A)]
        for value in ANY_VALUES + [[], (), "same a b", [("same", A, A)] * 5]:
            at = 0 if isinstance(value, (list, tuple)) and 1 <= len(value) <= 4 else -1
            for other, among in ((None, None), (land, None), (None, [None] * 7)):
                self.fails(InvalidClaim, {"at": at, "why": "form"}, settle, space, value, land=other, among=among)
        for value in NO_FORM:
            self.fails(InvalidClaim, {"at": 1, "why": "form"}, settle, space, [("same", A, A), value],
                       land=None, among=None)
        self.fails(InvalidClaim, {"at": 0, "why": "point"}, settle, space, [("same", A, ("mark", "z"))],
                   land=None, among=None)
        self.fails(InvalidLand, {}, settle, space, saying, land=None, among=[None] * 7)
        self.fails(InvalidReading, {"at": -1}, settle, space, saying, land=land, among=None)
        self.fails(TooMany, {"most": 6}, settle, space, saying, land=land, among=[None] * 7)
        self.fails(InvalidReading, {"at": 0}, settle, space, saying, land=land, among=[None, None])
        self.fails(InvalidLand, {}, settle, Space(SLANTED_TWO), saying, land=land, among=[])


class TestSettle(SettleCase):
    def land(self):
        """A land of TWO in which t shows c at 1 1, and d and e lie at 2 2 and 3 1 of s."""
        places = {"a": ORIGIN, "b": spot(1, 0), "c": spot(1, 1), "d": spot(4, 2), "e": spot(4, 1)}
        return land_of(TWO, tables={"s": table(1, 1, 0, 1), "t": table(1, 0, 0, 1)}, places=places,
                       moves={"s": ORIGIN, "t": ORIGIN})

    def test_lists_of_each_size(self):
        space, land = Space(TWO), self.land()
        among = [("s", "e"), ("t", "e"), ("s", "d"), ("t", "d"), ("t", "c")]
        for text, expected in [
                ("same a t:0:0", []), ("same a b", []), ("not same a b; line a b s:5:0", []),
                ("same c t:1:1", [("t", "c")]), ("same d s:2:2", [("s", "d")]), ("same d s:2:3", [("s", "d")]),
                ("not same d s:2:3", [("s", "d")]), ("same d e", [("s", "e"), ("s", "d")]),
                ("same d e; same c t:2:2", [("t", "c")]), ("same d e; same c t:1:1", [("s", "e"), ("s", "d")]),
                ("same e t:4:1; same d t:4:2", [("t", "e"), ("t", "d")]),
                ("same e t:4:1; same d s:2:2", [("t", "e"), ("s", "d")]),
                ("same e t:4:1; same d s:2:2; same c t:1:1", [("s", "e"), ("t", "e"), ("s", "d")]),
                ("same e s:3:1; same e t:4:1; same d t:4:2", [("s", "e"), ("t", "e"), ("s", "d")]),
                ("line a c d", None), ("line a d s:1:1", [("s", "d")]), ("line a b c; same d e", [("s", "e"), ("s", "d")])]:
            saying = read_saying(TWO, text)
            found = settle(space, saying, land=land, among=among)
            self.same(found, self.brute(space, saying, land, among))
            self.same((text, found), (text, expected))
            self.same(settle(among=tuple(among), land=land, saying=tuple(saying), space=space), expected)
        self.same(among, [("s", "e"), ("t", "e"), ("s", "d"), ("t", "d"), ("t", "c")])

    def test_the_first_list_by_indexes(self):
        space, land = Space(TWO), self.land()
        saying = read_saying(TWO, "same d e")
        for among in ([("t", "d"), ("t", "e"), ("s", "d"), ("s", "e")], [("s", "e"), ("t", "d"), ("t", "e"), ("s", "d")],
                      [("t", "d"), ("s", "e"), ("t", "c")], [("t", "c"), ("t", "d"), ("s", "e")]):
            found = settle(space, saying, land=land, among=among)
            self.same(found, self.brute(space, saying, land, among))
        self.same(settle(space, saying, land=land, among=[("t", "d"), ("s", "e"), ("t", "c")]),
                  [("t", "d"), ("s", "e"), ("t", "c")])
        self.assertIsNone(settle(space, saying, land=land, among=[("t", "d"), ("s", "e")]))
        self.assertIsNone(settle(space, saying, land=land, among=[]))
        self.same(settle(space, read_saying(TWO, "same a b"), land=land, among=[]), [])

    def test_drawn_spaces(self):
        found = {}
        for _ in range(40):
            room, told = self.standing()
            space = Space(room, told=told)
            land = self.drawn_land(space)
            pairs = self.unread(room)
            self.rng.shuffle(pairs)
            among = pairs[:self.rng.randint(0, 4)]
            saying = self.some_saying(room, told)
            if self.rng.random() < 0.6 and pairs:
                name, mark = pairs[0]
                saying[0] = ("same", ("mark", mark), ("spot", name, spot_at(land, name, mark)))
            chosen = settle(space, saying, land=land, among=among)
            self.same(chosen, self.brute(space, saying, land, among))
            key = None if chosen is None else min(len(chosen), 2)
            found[key] = found.get(key, 0) + 1
            if chosen is None:
                continue
            self.same([pair for pair in among if pair in chosen], chosen)
            word = judge(with_seen(space, land, chosen), saying)
            self.assertIn(word, SETTLED)
            # Settled words stay settled, whatever else is seen.
            more = chosen + [pair for pair in among if pair not in chosen]
            self.same(judge(with_seen(space, land, more), saying), word)
        for key in (None, 0, 1):
            self.assertGreater(found[key], 2, found)

    def test_eight_told_claims(self):
        told = [("same", A, A)] * 7 + [("middle", D, A, B)]
        space = Space(TWO, told=told)
        land = whole_land(space)
        saying = read_saying(TWO, "same e s:0:0; not same e s:1:1; not same e s:2:2; not same e s:3:3")
        self.same(settle(space, saying, land=land, among=[("t", "e"), ("s", "e")]),
                  self.brute(space, saying, land, [("t", "e"), ("s", "e")]))


if __name__ == "__main__":
    unittest.main()
