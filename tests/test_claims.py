"""Claims, sayings and their texts."""

import unittest

from lostland.claims import (
    check_claim, check_saying, claim_text, is_plain, read_claim, read_saying, saying_text)
from lostland.errors import InvalidClaim
from lostland.rooms import Room
from lostland.sheets import Sheet
from tests.oracle import some_claim
from tests.support import (
    ANY_VALUES, BIG, NOT_FRACTIONS, NOT_NAMES, ORIGIN, Case, nested, spot)

ROOM = Room(Sheet("s", "turned", [("a", ORIGIN), ("b", ORIGIN)]), Sheet("mark", "even"),
            Sheet("not", "sized"), marks=["c", "not", "same", "mix", "middle", "line", "side"])
A, B, C = ("mark", "a"), ("mark", "b"), ("mark", "c")
S = ("spot", "s", spot("1/2", 0))
E = ("spot", "mark", spot(-3, "2/7"))
NOT = ("mark", "not")
AWAY, OFF = ("mark", "z"), ("spot", "t", ORIGIN)
HALF, THIRD, NIL, UNIT = (1, 2), (1, 3), (0, 1), (1, 1)

PLAIN = [
    (("same", A, B), "same a b"), (("same", A, A), "same a a"), (("same", S, E), "same s:1/2:0 mark:-3:2/7"),
    (("same", NOT, ("mark", "same")), "same not same"),
    (("middle", A, B, S), "middle a b s:1/2:0"), (("middle", A, A, A), "middle a a a"),
    (("middle", ("mark", "middle"), ("mark", "mix"), NOT), "middle middle mix not"),
    (("mix", A, ((UNIT, B),)), "mix a 1 b"),
    (("mix", A, ((THIRD, B), ((2, 3), C))), "mix a 1/3 b 2/3 c"),
    (("mix", S, ((NIL, B), (UNIT, S), (NIL, S))), "mix s:1/2:0 0 b 1 s:1/2:0 0 s:1/2:0"),
    (("mix", A, ((HALF, A), (HALF, A), (HALF, A), ((-1, 2), A))), "mix a 1/2 a 1/2 a 1/2 a -1/2 a"),
    (("mix", ("mark", "mix"), (((BIG, 1), A), ((1 - BIG, 1), NOT))), f"mix mix {BIG} a {1 - BIG} not"),
]
STEPS = [
    (("line", A, B, C), "line a b c"), (("line", A, A, S), "line a a s:1/2:0"),
    (("line", ("mark", "line"), NOT, NOT), "line line not not"),
    (("side", A, B, C, A), "side a b c a"), (("side", E, E, E, E), " ".join(["side"] + ["mark:-3:2/7"] * 4)),
    (("side", ("mark", "side"), A, B, ("mark", "mix")), "side side a b mix"),
]
DENIED = [(("not", claim), "not " + text) for claim, text in PLAIN]
CLAIMS = PLAIN + STEPS + DENIED

NO_FORM = [
    (), ("same",), ("same", A), ("same", A, B, C), ["same", A, B], ("middle", A, B),
    ("middle", A, B, C, A), ("line", A, B), ("line", A, B, C, A), ("side", A, B, C),
    ("side", A, B, C, A, B), ("mix", A), ("mix", A, ()), ("mix", ((UNIT, A),)),
    ("mix", A, ((UNIT, B),), ()), ("mix", A, (UNIT, B)), ("mix", A, [(UNIT, B)]),
    ("mix", A, ([UNIT, B],)), ("mix", A, ((UNIT, B, C),)), ("mix", A, ((UNIT,),)),
    ("mix", A, ((B, UNIT),)), ("mix", A, ((1, B),)), ("mix", A, (((2, 2), B),)),
    ("mix", A, (((True, 1), B),)), ("mix", A, ((UNIT, "b"),)), ("mix", "a", ((UNIT, B),)),
    ("mix", A, ((HALF, A), (HALF, A), (HALF, A), ((-1, 2), A), (NIL, A))),
    ("mix", A, B), ("mix", A, None), ("mix", A, B, C), ("Same", A, B), ("same ", A, B),
    ("equal", A, B), ("not",), ("not", A), ("not", "same a b"), ("not", "same", A, B),
    ("not", ("same", A, B), ("same", A, B)), ("not", ("line", A, B, C)),
    ("not", ("side", A, B, C, A)), ("not", ("not", ("same", A, B))), ["not", ("same", A, B)],
    ("not", ["same", A, B]), ("not", ("same", A)), ("not", None), ("not", ()),
    ("not", ("mix", A, ())), (("same", A, B),), [("same", A, B)], "same a b", (None, A, B),
    ("same", ["mark", "a"], B), ("same", A, "b"), ("same", ("mark", "A"), B),
    ("same", ("mark", True), B), ("same", A, ("spot", "s", (0, 0))), ("same", A, ("spot", "s")),
    ("line", A, B, None), ("side", A, B, C, ()), nested(11, A), nested(10, ("same", A, B)),
    (["same"], A, B), (("same",), A, B), ("point", A, B),
    ("same", ("spot", "S", ORIGIN), B), ("same", A, ("spot", "abcdefg", ORIGIN)),
    ("same", A, ("spot", ("s",), ORIGIN)), ("same", A, ("spot", "s", ORIGIN, ORIGIN)),
]


class TestCheckClaim(Case):
    def test_claims_are_let(self):
        for claim, _ in CLAIMS:
            self.assertIsNone(check_claim(ROOM, claim))
            self.assertIsNone(check_claim(ROOM, claim, 7))
            self.assertIsNone(check_claim(at=2, claim=claim, room=ROOM))

    def test_form(self):
        for value in NO_FORM + ANY_VALUES + NOT_NAMES:
            self.fails(InvalidClaim, {"at": 0, "why": "form"}, check_claim, ROOM, value)
            self.fails(InvalidClaim, {"at": 0, "why": "form"}, check_claim, Room(), value)
            self.fails(InvalidClaim, {"at": 3, "why": "form"}, check_claim, ROOM, value, 3)
            self.fails(InvalidClaim, {"at": -1, "why": "form"}, check_claim, ROOM, ("not", value), at=-1)

    def test_form_at_each_place(self):
        for claim, _ in PLAIN[:8] + STEPS:
            for at in range(len(claim)):
                for value in ANY_VALUES + NOT_NAMES[15:]:
                    if at and value == A:
                        continue
                    bent = claim[:at] + (value,) + claim[at + 1:]
                    self.fails(InvalidClaim, {"at": 0, "why": "form"}, check_claim, ROOM, bent)
        for value in NOT_FRACTIONS:
            self.fails(InvalidClaim, {"at": 0, "why": "form"}, check_claim, ROOM,
                       ("mix", A, ((UNIT, A), (value, B))))

    def test_point(self):
        for word, many in (("same", 2), ("middle", 3), ("line", 3), ("side", 4)):
            for at in range(many):
                for away in (AWAY, OFF, ("mark", "s"), ("spot", "a", ORIGIN)):
                    points = [A] * many
                    points[at] = away
                    told = {"at": 4, "why": "point"}
                    self.fails(InvalidClaim, told, check_claim, ROOM, (word, *points), 4)
                    if many == 2 or word == "middle":
                        self.fails(InvalidClaim, told, check_claim, ROOM, ("not", (word, *points)), 4)
        for claim in (("mix", AWAY, ((UNIT, A),)), ("mix", A, ((NIL, A), (UNIT, OFF)))):
            self.fails(InvalidClaim, {"at": 0, "why": "point"}, check_claim, ROOM, claim)
            self.fails(InvalidClaim, {"at": 0, "why": "point"}, check_claim, ROOM, ("not", claim))
        for claim, _ in CLAIMS:
            self.fails(InvalidClaim, {"at": 1, "why": "point"}, check_claim, Room(), claim, 1)

    def test_weights(self):
        for parts in (((NIL, A),), (((2, 1), A),), ((HALF, A), (THIRD, B)), ((HALF, A),) * 3,
                      ((UNIT, A), ((1, BIG), A)), ((NIL, A),) * 4):
            for claim in (("mix", A, parts), ("not", ("mix", S, parts))):
                self.fails(InvalidClaim, {"at": 0, "why": "weights"}, check_claim, ROOM, claim)

    def test_the_first_of_several_words(self):
        # A wrong sum, a point of no room here and a wrong form.
        self.fails(InvalidClaim, {"why": "point"}, check_claim, ROOM, ("mix", A, ((HALF, AWAY),)))
        self.fails(InvalidClaim, {"why": "point"}, check_claim, ROOM, ("mix", OFF, ((HALF, A),)))
        self.fails(InvalidClaim, {"why": "form"}, check_claim, ROOM, ("mix", OFF, ((HALF, "a"),)))
        self.fails(InvalidClaim, {"why": "form"}, check_claim, ROOM, ("mix", A, ((HALF, A), 0)))
        self.fails(InvalidClaim, {"why": "form"}, check_claim, ROOM, ("same", AWAY, None))
        self.fails(InvalidClaim, {"why": "form"}, check_claim, ROOM, ("not", ("line", A, B, AWAY)))
        self.fails(InvalidClaim, {"why": "form"}, check_claim, ROOM,
                   ("mix", A, ((HALF, AWAY),) * 5))


class TestSayings(Case):
    def test_sayings_are_let(self):
        claims = [claim for claim, _ in CLAIMS]
        for at in range(len(claims)):
            for many in range(1, 5):
                saying = (claims + claims)[at:at + many]
                self.assertIsNone(check_saying(ROOM, saying))
                self.assertIsNone(check_saying(saying=tuple(saying), room=ROOM))

    def test_other_values(self):
        for value in ANY_VALUES + [[], (), "same a b"] + [[("same", A, B)] * 5, (("same", A, B),) * 5]:
            if isinstance(value, (list, tuple)) and 1 <= len(value) <= 4:
                self.fails(InvalidClaim, {"at": 0, "why": "form"}, check_saying, ROOM, value)
            else:
                self.fails(InvalidClaim, {"at": -1, "why": "form"}, check_saying, ROOM, value)
        # A claim is no saying.
        self.fails(InvalidClaim, {"at": 0, "why": "form"}, check_saying, ROOM, ("same", A, B))
        self.fails(InvalidClaim, {"at": -1, "why": "form"}, check_saying, ROOM, [None] * 5)

    def test_the_first_wrong_claim(self):
        good, away, heavy = ("same", A, B), ("same", A, AWAY), ("mix", A, ((HALF, B),))
        for at in range(4):
            for value in NO_FORM:
                saying = [good] * at + [value] + [away] * (3 - at)
                self.fails(InvalidClaim, {"at": at, "why": "form"}, check_saying, ROOM, saying)
            saying = tuple([good] * at + [away] + [None] * (3 - at))
            self.fails(InvalidClaim, {"at": at, "why": "point"}, check_saying, ROOM, saying)
            saying = [good] * at + [heavy] + [None] * (3 - at)
            self.fails(InvalidClaim, {"at": at, "why": "weights"}, check_saying, ROOM, saying)

    def test_plain(self):
        for claim, _ in PLAIN:
            self.assertIs(is_plain(claim), True)
        for claim, _ in STEPS + DENIED:
            self.assertIs(is_plain(claim=claim), False)


class TestTexts(Case):
    def test_texts(self):
        for claim, text in CLAIMS:
            self.same(claim_text(claim), text)
            self.same(claim_text(claim=claim), text)
            self.same(read_claim(ROOM, text), claim)
            self.same(read_claim(at=9, text=text, room=ROOM), claim)
            self.same(saying_text([claim]), text)
            self.same(read_saying(ROOM, text), [claim])

    def test_texts_of_sayings(self):
        claims = [claim for claim, _ in CLAIMS]
        for at in range(len(claims)):
            for many in range(1, 5):
                saying = (claims + claims)[at:at + many]
                text = "; ".join(claim_text(claim) for claim in saying)
                self.same(saying_text(saying), text)
                self.same(saying_text(saying=tuple(saying)), text)
                self.same(read_saying(text=text, room=ROOM), saying)

    def test_drawn_claims_are_read_back(self):
        for _ in range(300):
            claim = some_claim(self.rng, ROOM)
            self.assertIsNone(check_claim(ROOM, claim))
            self.same(read_claim(ROOM, claim_text(claim)), claim)

    def test_long_numbers(self):
        most = 10 ** 4000 - 1
        claim = ("same", A, ("spot", "s", ((most, 1), (1, most))))
        self.same(read_claim(ROOM, claim_text(claim)), claim)
        claim = ("same", A, ("spot", "s", ((most + 1, 1), (1, 1))))
        self.fails(InvalidClaim, {"why": "form"}, read_claim, ROOM, claim_text(claim))

    def test_no_text_of_a_claim(self):
        texts = [
            "", " ", "same", "same a", "same a b c", " same a b", "same a b ", "same  a b",
            "same a  b", "same a b\n", "same\na b", "same a b;", "same a, b", "Same a b", "same A b",
            "same a ab1", "middle a b", "middle a b c a", "line a b", "line a b c a", "side a b c",
            "side a b c a b", "mix", "mix a", "mix a 1", "mix a 1 b 1", "mix a b", "mix a b 1",
            "mix 1 a b", "mix a 1 b 0 b 0 b 0 b 0 b", "mix a 2/2 b", "mix a 01 b", "mix a +1 b",
            "mix a -0 b", "mix a 1/1 b", "mix a  1 b", "mix a 1  b", "mix a 1 b ", "not", "not ",
            "not not same a b", "not line a b c", "not side a b c a", "not a b", "not same a",
            "not  same a b", "same not", "not same", "same a s:1/2", "same a s:1/2:0:0",
            "same a s:2/4:0", "same a s:1/2:", "same a :1/2:0", "same a S:0:0", "same a s1:0:0", "a", "a b", "mark a",
            "equal a b", "same a b; same a b", "same a b; ", "; same a b", "(same a b)",
            "not " * 999 + "same", "same a" + " a" * 1990, "mix a" + " 0 a" * 990,
        ]
        for text in texts + ANY_VALUES + NOT_NAMES + [claim for claim, _ in CLAIMS]:
            self.fails(InvalidClaim, {"at": 0, "why": "form"}, read_claim, ROOM, text)
            self.fails(InvalidClaim, {"at": 5, "why": "form"}, read_claim, Room(), text, 5)

    def test_texts_of_claims_of_other_rooms(self):
        for text in ("same a z", "middle z a b", "line a b t:0:0", "side a b s:0:0 a:0:0",
                     "not same z a", "mix z 1 a", "mix a 1/2 z", "not mix a 0 b 1 z",
                     "mix t:0:0 0 a"):
            self.fails(InvalidClaim, {"at": 2, "why": "point"}, read_claim, ROOM, text, 2)
        for claim, text in CLAIMS:
            self.fails(InvalidClaim, {"at": 0, "why": "point"}, read_claim, Room(), text)
        for text in ("mix a 0 b", "mix a 1/2 b 1/3 c", "not mix a 2 a", "mix a -1 a 1 a"):
            self.fails(InvalidClaim, {"at": 1, "why": "weights"}, read_claim, ROOM, text, at=1)

    def test_no_text_of_a_saying(self):
        for value in ANY_VALUES + [["same a b"], ("same a b",), [("same", A, B)]]:
            if isinstance(value, str):
                self.fails(InvalidClaim, {"at": 0, "why": "form"}, read_saying, ROOM, value)
            else:
                self.fails(InvalidClaim, {"at": -1, "why": "form"}, read_saying, ROOM, value)
        five = "; ".join(["same a b"] * 5)
        self.fails(InvalidClaim, {"at": -1, "why": "form"}, read_saying, ROOM, five)
        for text in ("; ; ; ; ", "x; y; z; u; v", five + "; ", "; " * 1900):
            self.fails(InvalidClaim, {"at": -1, "why": "form"}, read_saying, ROOM, text)
        for at, text in [(0, ""), (0, "; "), (1, "same a b; "), (0, "; same a b"), (0, "; ; ; "),
                         (0, "same a b;same a b"), (0, "same a b ; same a b"),
                         (1, "same a b;  same a b"), (1, "same a b; same a b;"),
                         (1, "same a b; ; same a b"), (2, "same a b; line a b c; line a b"),
                         (3, "same a b; same a b; same a b; x"), (0, "same a b;"),
                         (0, "same a b;\nsame a b"), (0, "same a b, same a b")]:
            self.fails(InvalidClaim, {"at": at, "why": "form"}, read_saying, ROOM, text)

    def test_the_first_wrong_part_of_a_saying(self):
        for at, why, text in [
                (1, "point", "same a b; same a z; x"), (1, "weights", "same a b; mix a 0 b; x"),
                (0, "point", "mix a 0 z; x"), (2, "form", "same a b; same a b; x; same a z"),
                (3, "point", "same a b; same a b; not same a b; line a b t:0:0")]:
            self.fails(InvalidClaim, {"at": at, "why": why}, read_saying, ROOM, text)

    def test_changed_texts_are_read_only_as_they_are_written(self):
        signs = " ;:/-01ab\n"
        texts = [text for _, text in CLAIMS if len(text) < 99]
        for text in texts:
            for _ in range(60):
                at = self.rng.randrange(len(text) + 1)
                bent = text[:at] + self.rng.choice(signs) + text[at + self.rng.randint(0, 1):]
                try:
                    claim = read_claim(ROOM, bent)
                except InvalidClaim:
                    continue
                self.same(claim_text(claim), bent)

    def test_returned_lists_are_new(self):
        found = read_saying(ROOM, "same a b; line a b c")
        found.pop()
        self.same(read_saying(ROOM, "same a b; line a b c"), [("same", A, B), ("line", A, B, C)])


if __name__ == "__main__":
    unittest.main()
