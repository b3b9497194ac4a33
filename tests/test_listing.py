"""The listing of a room."""

from itertools import islice
import unittest

from lostland.listing import listing
from lostland.rooms import Room
from lostland.sheets import Sheet
from tests.support import BIG, ORIGIN, Case, num, spot
from tests.test_texts import some_room


def text_of(over, under):
    return str(over) if under == 1 else f"{over}/{under}"


class TestListing(Case):
    def test_lines(self):
        room = Room(Sheet("s", "turned", [("b", spot("1/2", -3)), ("abcdef", ORIGIN)]), Sheet("empty", "even"),
                    Sheet("longer", "sized", [("a", spot(123456789, "-1234567/8"))]), marks=["z", "loose"])
        self.same(list(listing(room)), [
            "s      b            1/2        -3", "s      abcdef         0         0", "empty  -",
            "longer a      123456789 -1234567/8"])
        self.same(list(listing(room=Room(marks=["a"]))), [])
        self.same(list(listing(Room())), [])
        self.same(list(listing(Room(Sheet("a", "sized")))), ["a      -"])
        self.same(list(islice(listing(room), 1)), ["s      b            1/2        -3"])

    def test_longer_texts_are_not_cut(self):
        room = Room(Sheet("s", "even", [("a", ((BIG, BIG + 1), (-BIG, 1)))]))
        self.same(list(listing(room)), [f"s      a      {BIG}/{BIG + 1} {-BIG}"])
        huge = 10 ** 4500 + 1
        digits = "1" + "0" * 4499 + "1"
        room = Room(Sheet("s", "even", [("a", (num(1), (huge, 1)))]))
        self.same(list(listing(room)), [f"s      a              1 {digits}"])

    def test_drawn_rooms(self):
        for _ in range(50):
            room = some_room(self.rng, self.rng.randint(0, 8), self.rng.randint(0, 12))
            expected = []
            for sheet in room.sheets():
                for mark, (x, y) in sheet.readings():
                    words = [sheet.name.ljust(6), mark.ljust(6), text_of(*x).rjust(9), text_of(*y).rjust(9)]
                    expected.append(" ".join(words))
                if not sheet.readings():
                    expected.append(sheet.name.ljust(6) + " -")
            self.same(list(listing(room)), expected)


if __name__ == "__main__":
    unittest.main()
