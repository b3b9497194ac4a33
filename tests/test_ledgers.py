"""Ledgers, which take rows one by one."""

import unittest

from lostland.errors import InvalidClaim, NothingLeft, RowStands, TooMany, UnknownRow
from lostland.ledgers import Ledger
from lostland.rooms import Room
from lostland.sheets import Sheet
from lostland.spaces import Space
from lostland.sums import is_sum, row_keys
from tests import oracle
from tests.support import ANY_VALUES, NOT_NAMES, ORIGIN, Case, some_spot, spot
from tests.test_sums import KEYS, NO_KEYS, ROOM, TOLD

A, B, X = [("mark", mark) for mark in "abx"]
LINE = ("line", A, B, X)


class TestLedger(Case):
    def drawn(self):
        kinds = oracle.some_kinds(self.rng, self.rng.randint(1, 4))
        room, land = oracle.drawn(self.rng, kinds, self.rng.randint(1, 4), loose=1, often=0.8)
        told = [oracle.true_plain(self.rng, room, land) for _ in range(self.rng.randint(0, 3))]
        if self.rng.random() < 0.3:
            told.append(oracle.some_plain(self.rng, room))
        if self.rng.random() < 0.3 and room.readings():
            name, mark = self.rng.choice(room.readings())
            room = room.with_reading(name, mark, some_spot(self.rng))
        return room, told

    def orders(self, keys):
        yield keys
        yield keys[::-1]
        yield sorted(keys)
        for _ in range(2):
            mixed = list(keys)
            self.rng.shuffle(mixed)
            yield mixed

    def check(self, ledger, room, told, kept, followed):
        """All that a ledger answers."""
        self.same(ledger.kept(), kept)
        self.same(ledger.followed(), followed)
        self.same(ledger.rank, len(kept))
        self.same(len(ledger), len(kept) + len(followed))
        self.same(repr(ledger), f"Ledger({len(kept)} kept, {len(followed)} followed)")
        self.assertIs(bool(ledger), True)
        for key in row_keys(room, told):
            self.assertIs(key in ledger, key in kept + followed)
            if key not in followed:
                self.fails(UnknownRow, {"key": key}, ledger.sum_of, key)

    def test_all_rows_in_several_orders(self):
        for _ in range(25):
            room, told = self.drawn()
            rows = dict(oracle.rows(room, told))
            for order in self.orders(row_keys(room, told)):
                ledger = Ledger(room, told=told)
                kept, followed = [], []
                for key in order:
                    ahead = [rows[one] for one in kept]
                    is_kept = not oracle.is_spanned(ahead, rows[key])
                    self.assertIs(ledger.put(key), is_kept)
                    (kept if is_kept else followed).append(key)
                    if not is_kept:
                        self.check_sum(ledger, room, told, key, kept)
                self.check(ledger, room, told, kept, followed)
                self.same(ledger.rank, Space(room, told=told).rank)

    def check_sum(self, ledger, room, told, key, ahead):
        total = ledger.sum_of(key)
        self.assertIs(is_sum(room, total, told), True)
        self.assertLessEqual({own for own, _ in total}, set(ahead))
        self.assertEqual(oracle.multiplied_out(room, told, total), dict(oracle.rows(room, told))[key])
        self.same(ledger.sum_of(key=key), total)

    def test_sums_are_of_rows_ahead_alone(self):
        room = Room(marks=["a", "b", "x"])
        told = [("same", A, B), ("same", A, B), ("same", B, A), ("same", A, A), ("same", B, X)]
        ledger = Ledger(room, told=told)
        self.assertIs(ledger.put(("told", 3, 0)), False)
        self.same(ledger.sum_of(("told", 3, 0)), ())
        self.assertIs(ledger.put(key=("told", 1, 0)), True)
        self.assertIs(ledger.put(("told", 2, 0)), False)
        self.assertIs(ledger.put(("told", 0, 0)), False)
        self.assertIs(ledger.put(("told", 4, 0)), True)
        self.same(ledger.sum_of(("told", 2, 0)), ((("told", 1, 0), (-1, 1)),))
        self.same(ledger.sum_of(("told", 0, 0)), ((("told", 1, 0), (1, 1)),))
        self.check(ledger, room, told, [("told", 1, 0), ("told", 4, 0)],
                   [("told", 3, 0), ("told", 2, 0), ("told", 0, 0)])

    def test_take_back(self):
        for _ in range(20):
            room, told = self.drawn()
            rows = dict(oracle.rows(room, told))
            keys = row_keys(room, told)
            self.rng.shuffle(keys)
            ledger, states = Ledger(room, told=told), []
            for key in keys:
                states.append((ledger.kept(), ledger.followed()))
                ledger.put(key)
            # Back to some place, on in another way, and down to the empty ledger.
            for key in keys[len(keys) // 2:][::-1]:
                self.same(ledger.take_back(), key)
                self.check(ledger, room, told, *states.pop())
            rest = keys[len(keys) // 2:]
            self.rng.shuffle(rest)
            for key in rest:
                ahead = [rows[one] for one in ledger.kept()]
                self.assertIs(ledger.put(key), not oracle.is_spanned(ahead, rows[key]))
            for key in ledger.followed():
                self.check_sum(ledger, room, told, key, ledger.kept())
            for key in rest[::-1] + keys[:len(keys) // 2][::-1]:
                self.same(ledger.take_back(), key)
            self.check(ledger, room, told, [], [])
            self.fails(NothingLeft, {}, ledger.take_back)
            self.check(ledger, room, told, [], [])

    def test_the_empty_ledger(self):
        for room in (Room(), Room(Sheet("s", "even"), marks=["a"]), ROOM):
            ledger = Ledger(room)
            self.check(ledger, room, [], [], [])
            self.fails(NothingLeft, {}, ledger.take_back)
        self.same(repr(Ledger(Room())), "Ledger(0 kept, 0 followed)")

    def test_rows_that_stand(self):
        ledger = Ledger(ROOM, told=TOLD)
        for key in KEYS:
            ledger.put(key)
        state = ledger.kept(), ledger.followed()
        for key in KEYS:
            self.fails(RowStands, {"key": key}, ledger.put, key)
        self.check(ledger, ROOM, TOLD, *state)
        self.same(ledger.take_back(), KEYS[-1])
        self.same(ledger.take_back(), KEYS[-2])
        ledger.put(KEYS[-1])
        self.fails(RowStands, {"key": KEYS[-1]}, ledger.put, KEYS[-1])

    def test_values_that_are_no_keys(self):
        ledger = Ledger(ROOM, told=TOLD)
        for key in KEYS:
            ledger.put(key)
        state = ledger.kept(), ledger.followed()
        for value in NO_KEYS + ANY_VALUES + NOT_NAMES:
            self.fails(UnknownRow, {"key": value}, ledger.put, value)
            self.fails(UnknownRow, {"key": value}, ledger.sum_of, value)
            self.assertIs(value in ledger, False)
        self.check(ledger, ROOM, TOLD, *state)
        self.fails(UnknownRow, {"key": ("told", 0, 0)}, Ledger(ROOM).put, ("told", 0, 0))

    def test_twins(self):
        room, told = ROOM, TOLD
        ledger = Ledger(room, told=told)
        for key in KEYS[:6]:
            ledger.put(key)
        twin = ledger.twin()
        self.assertIs(type(twin), Ledger)
        state = ledger.kept(), ledger.followed()
        self.check(twin, room, told, *state)
        self.assertIs(twin.put(KEYS[6]), True)
        self.assertIs(twin.put(KEYS[12]), False)
        self.check(ledger, room, told, *state)
        self.assertIs(ledger.put(KEYS[8]), True)
        self.same(twin.take_back(), KEYS[12])
        self.same(twin.take_back(), KEYS[6])
        self.check(twin, room, told, *state)
        self.check(ledger, room, told, state[0] + [KEYS[8]], state[1])
        while len(ledger):
            ledger.take_back()
        self.check(twin, room, told, *state)
        self.assertIs(twin.put(KEYS[8]), True)

    def test_errors_as_for_spaces(self):
        for value in ANY_VALUES + [""]:
            if not isinstance(value, (list, tuple)):
                self.fails(InvalidClaim, {"at": -1, "why": "form"}, Ledger, ROOM, told=value)
        self.fails(TooMany, {"most": 12}, Ledger, ROOM, told=[None] * 13)
        good = ("same", A, B)
        self.same(len(Ledger(ROOM, told=(good,) * 12)), 0)
        for value, why in [(value, "form") for value in ANY_VALUES] + [
                (LINE, "form"), (("not", good), "form"), (("same", A, ("mark", "z")), "point"),
                (("line", A, B, ("spot", "a", ORIGIN)), "point"), (("mix", A, (((2, 1), B),)), "weights")]:
            self.fails(InvalidClaim, {"at": 1, "why": why}, Ledger, ROOM, told=[good, value, None])

    def test_lists_that_are_changed_behind_the_call(self):
        told = [("same", A, B)]
        ledger = Ledger(ROOM, told=told)
        told.clear()
        self.assertIs(ledger.put(("told", 0, 1)), True)
        ledger.put(("reading", "t", "a", 1))
        for answer in (ledger.kept(), ledger.followed()):
            self.assertIs(type(answer), list)
            answer.append("more")
        self.check(ledger, ROOM, [("same", A, B)], [("told", 0, 1), ("reading", "t", "a", 1)], [])

    def test_spare_readings_are_followed(self):
        room = Room(Sheet("s", "sized", [("a", ORIGIN), ("b", spot(1, 1))]),
                    Sheet("t", "sized", [("a", ORIGIN), ("b", spot(2, 2))]))
        ledger = Ledger(room)
        answers = [ledger.put(key) for key in row_keys(room)]
        self.same(answers, [True] * 7 + [False])
        self.check_sum(ledger, room, [], ("reading", "t", "b", 1), ledger.kept())


if __name__ == "__main__":
    unittest.main()
