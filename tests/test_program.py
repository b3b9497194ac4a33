"""What the parts of the program tell of one room agrees."""

import unittest

from lostland.areas import quotient, scale, scale_lands
from lostland.claims import claim_text
from lostland.grounds import is_judge_paper, judge_paper
from lostland.hands import hand, hand_paper, is_hand_paper
from lostland.joints import blocks, joint, joints
from lostland.judging import judge, surely
from lostland.ledgers import Ledger
from lostland.listing import listing
from lostland.maproom import MapRoom
from lostland.maptexts import map_text, read_map
from lostland.presses import crushed_paper, is_crushed_paper
from lostland.redraw import cut, drawn_block, flipped, joined, overlaid, redrawn
from lostland.rooms import Room
from lostland.settling import settle, with_seen
from lostland.sheets import Sheet
from lostland.spaces import Space
from lostland.spare import is_spare, spare, stripped
from lostland.sums import row_keys
from lostland.texts import read_room, room_text
from lostland.where import index_of, is_where_paper, known_on, where, where_paper
from lostland.whole import pressed, stands, whole_land
from lostland.wrong import apart_papers, fewest, mended, suspects
from tests import oracle
from tests.support import motion, num, spot
from tests.test_judging import JudgeCase


def answers(space):
    """What is told of a space that does not depend on how it is written down."""
    names = sorted(space.room.names())
    index = index_of(space)
    return {
        "freedoms": space.freedoms, "index": {mark: dict(sorted(index[mark].items())) for mark in index},
        "hands": {name: hand(space, name) for name in names},
        "scales": {(one, other): scale(space, one, other) for one in names for other in names},
        "words": {(one, other): joint(space, one, other).word for one in names for other in names},
        "blocks": sorted(sorted(block) for block in blocks(space))}


class ProgramCase(JudgeCase):
    def drawn_space(self):
        room, told = self.standing()
        return Space(room, told=told)

    def shuffled(self, space):
        """The space with its sheets and readings in another order."""
        sheets = []
        for sheet in space.room.sheets():
            readings = sheet.readings()
            self.rng.shuffle(readings)
            sheets.append(Sheet(sheet.name, sheet.kind, readings))
        self.rng.shuffle(sheets)
        told = space.told()
        self.rng.shuffle(told)
        return Space(Room(*sheets, marks=space.room.marks()), told=told)


class TestAgreement(ProgramCase):
    def test_where_joints_judging_and_papers(self):
        for _ in range(25):
            space = self.drawn_space()
            room, names = space.room, space.room.names()
            land = whole_land(space)
            for mark in room.marks():
                point = ("mark", mark)
                for name in names:
                    known = where(space, point, on=name)
                    self.assertIs(name in known_on(space, point), known is not None)
                    paper = where_paper(space, point, on=name)
                    self.same(paper[0], "open" if known is None else "known")
                    self.assertIs(is_where_paper(space, point, paper, on=name), True)
                    place = land.spot(point, name) if known is None else known
                    claim = ("same", point, ("spot", name, place))
                    self.same(judge(space, [claim]), "open" if known is None else "surely")
                    self.assertIs(surely(space, claim), known is not None)
                    if mark in room.sheet(name):
                        self.same(known, room.sheet(name).spot(mark))
                    if known is not None:
                        # A known mark is led where it is known on the other sheets.
                        for other in names:
                            over = joint(space, name, other)
                            led = over.lead(known) if known in over.flat() else None
                            self.same(led, where(space, point, on=other))
            for found in joints(space):
                for place, image in found.pairs():
                    claim = ("same", ("spot", found.one, place), ("spot", found.other, image))
                    self.same(judge(space, [claim]), "surely")

    def test_blocks_scales_and_hands(self):
        for _ in range(25):
            space = self.drawn_space()
            for block in blocks(space):
                for one in block:
                    for other in block:
                        over = joint(space, one, other).motion_over()
                        det = over.table.det
                        # A sheet is as many times smaller as its spots are led further apart.
                        self.same(scale(space, one, other), det)
                        self.assertIsNone(scale_lands(space, one, other))
                        turned = {"right": "left", "left": "right"}.get(hand(space, one), "either")
                        self.same(hand(space, other), hand(space, one) if det[0] > 0 else turned)
            for name in space.room.names():
                self.assertIs(is_hand_paper(space, name, hand_paper(space, name)), True)
                corner = tuple(("spot", name, place) for place in (spot(1, 1), spot(2, 1), spot(1, 2)))
                self.same(quotient(space, corner, corner), num(1))

    def test_a_land_that_is_seen_whole(self):
        for _ in range(20):
            space = self.drawn_space()
            land = whole_land(space)
            pairs = [(name, mark) for name in space.room.names() for mark in space.room.marks()
                     if mark not in space.room.sheet(name)]
            while pairs:
                space_seen = with_seen(space, land, pairs[:6])
                self.assertIs(space_seen.is_within(space), True)
                self.assertLessEqual(space_seen.freedoms, space.freedoms)
                for name, mark in pairs[:6]:
                    self.same(where(space_seen, ("mark", mark), on=name), land.spot(("mark", mark), name))
                pairs = pairs[6:]

    def test_ledgers_and_stripped_spaces(self):
        for _ in range(20):
            space = self.drawn_space()
            ledger = Ledger(space.room, told=space.told())
            for key in row_keys(space.room, space.told()):
                ledger.put(key)
            self.same(ledger.rank, space.rank)
            less = stripped(space)
            self.assertEqual(less, space)
            self.same(answers(less), answers(space))
            self.same([pair for pair in spare(less)], [])

    def test_wrong_readings(self):
        for _ in range(25):
            room, told = self.drawn()
            space = Space(room, told=told)
            found = fewest(space)
            if stands(space):
                self.same(found, [])
                self.assertIsNone(crushed_paper(space))
                self.same(list(apart_papers(space)), [])
                continue
            self.assertIs(is_crushed_paper(space, crushed_paper(space)), True)
            if suspects(space):
                self.same(found, suspects(space)[:1])
                name, mark = found[0]
                known = mended(space, name, mark)
                if known is not None:
                    good = space.with_reading(name, mark, known)
                    self.assertIs(stands(good), True)
                    self.assertIs(is_spare(good, name, mark), True)


class TestOtherWaysToWrite(ProgramCase):
    def test_readings_that_follow(self):
        for _ in range(20):
            space = self.drawn_space()
            expected = answers(space)
            saying = self.some_saying(space.room, space.told())
            index = index_of(space)
            more = space
            for mark in index:
                for name, place in index[mark].items():
                    more = more.with_reading(name, mark, place)
            self.assertEqual(more, space)
            self.same(answers(more), expected)
            self.same(judge(more, saying), judge(space, saying))
            back = stripped(more, more.room.readings()[::-1])
            self.assertEqual(back, space)
            self.same(answers(back), expected)
            self.same(judge(back, saying), judge(space, saying))
            for name in space.room.names():
                self.same(answers(overlaid(space, name)), expected)

    def test_sheets_and_readings_in_another_order(self):
        for _ in range(25):
            space = self.drawn_space()
            other = self.shuffled(space)
            self.assertEqual(other, space)
            self.same(answers(other), answers(space))
            saying = self.some_saying(space.room, space.told())
            self.same(judge(other, saying), judge(space, saying))
            paper = judge_paper(other, saying)
            self.same(paper[0], judge(space, saying))
            self.assertIs(is_judge_paper(other, saying, paper), True)
            self.assertEqual(sorted(spare(other)), sorted(spare(space)))

    def test_a_wrong_room_in_another_order(self):
        for _ in range(25):
            room, told = self.drawn()
            space = Space(room, told=told)
            other = self.shuffled(space)
            self.assertEqual(other, space)
            self.assertEqual(sorted(pressed(other)), sorted(pressed(space)))
            if not stands(space):
                self.assertEqual(sorted(suspects(other)), sorted(suspects(space)))
                one, two = fewest(space), fewest(other)
                self.assertEqual(one is None, two is None)
                self.assertEqual(len(one or []), len(two or []))

    def test_drawn_anew(self):
        for _ in range(15):
            space = self.drawn_space()
            expected = answers(space)
            name = self.rng.choice(space.room.names())
            sheet = space.room.sheet(name)
            own = motion(1, 0, 0, 1, 2, -3) if sheet.kind == "even" else motion(2, 0, 0, 2, 2, -3)
            self.same(answers(redrawn(redrawn(space, name, own), name, own.inverse())), expected)
            if sheet.kind not in ("sized", "even"):
                self.same(answers(flipped(flipped(space, name), name)), expected)
            # A sheet cut into two that keep all readings, and put together again.
            marks = sheet.marks()
            double = cut(space, name, marks, marks, "other")
            if "other" in sum([block for block in blocks(double) if name in block], []):
                back = joined(double, name, "other")
                self.assertEqual(back.room, space.room)
                self.same(answers(back), expected)
                self.same(sorted(joined(double, "other", name).room.names()),
                          sorted([own for own in double.room.names() if own != name]))
            alone = drawn_block(cut(space, name, marks, [], "other"), "other")
            self.assertIn("other", alone.room.names())


class TestMapRooms(ProgramCase):
    def test_the_desk_and_the_space(self):
        for _ in range(20):
            room, told = self.standing()
            desk = MapRoom()
            for sheet in room.sheets():
                desk.do(("sheet", Sheet(sheet.name, sheet.kind)))
                desk.do(*[("read", sheet.name, mark, place) for mark, place in sheet.readings()])
            desk.do(*[("mark", mark) for mark in room.marks()])
            desk.do(*[("tell", claim_text(claim)) for claim in told])
            space = desk.space()
            self.assertEqual(desk.held(), room)
            self.assertEqual(space, Space(room, told=told))
            self.same(desk("freedoms"), str(space.freedoms))
            for name in room.names():
                self.same(desk(f"hand {name}"), hand(space, name))
            saying = self.some_saying(room, told)
            text = "; ".join(claim_text(claim) for claim in saying)
            self.same(desk(f"judge {text}"), judge(space, saying))
            again = read_map(map_text(desk))
            self.assertEqual(again, desk)
            self.same(answers(again.space()), answers(space))
            self.assertEqual(read_room(room_text(desk.held())), room)
            self.same(len(list(listing(room))), max(len(room.readings()) + sum(
                len(sheet) == 0 for sheet in room.sheets()), 0))
            # What is tried is what is then done.
            if spare(space):
                deed = ("strike", *spare(space)[0])
                tried = desk.tried(deed)
                self.assertEqual(tried, space)
                desk.do(deed)
                self.same(answers(desk.space()), answers(tried))

    def test_seen_readings_as_deeds(self):
        for _ in range(15):
            space = self.drawn_space()
            room = space.room
            desk = read_map(room_text(room) + "".join(f"told {claim_text(one)}\n" for one in space.told()))
            land = whole_land(space)
            among = [(name, mark) for name in room.names() for mark in room.marks()
                     if mark not in room.sheet(name)][:4]
            saying = [oracle.some_plain(self.rng, room)]
            chosen = settle(space, saying, land=land, among=among)
            if chosen is None:
                continue
            desk.do(*[("read", name, mark, land.spot(("mark", mark), name)) for name, mark in chosen])
            self.assertEqual(desk.held(), with_seen(space, land, chosen).room)
            self.assertIn(desk(f"judge {claim_text(saying[0])}"), ("surely", "never"))


if __name__ == "__main__":
    unittest.main()
