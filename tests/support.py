"""What several tests use: sample values, an oracle over Fraction, and checks of errors."""

from fractions import Fraction
from random import Random
import unittest

from lostland import errors
from lostland.flats import Flat
from lostland.joints import joint
from lostland.lands import land_of
from lostland.ledgers import Ledger
from lostland.maproom import MapRoom
from lostland.motions import Motion
from lostland.rooms import Room
from lostland.sheets import Sheet
from lostland.spaces import Space
from lostland.tables import Table

ZERO = (0, 1)
ONE = (1, 1)
BIG = 10 ** 199 + 7
ORIGIN = (ZERO, ZERO)


def num(over, under=1):
    """The fraction over / under, by other means than the package's."""
    value = Fraction(over, under)
    return (value.numerator, value.denominator)


def frac(pair):
    return Fraction(pair[0], pair[1])


def spot(x, y):
    """A spot, from integers, Fractions or texts such as 1/2."""
    x, y = Fraction(x), Fraction(y)
    return ((x.numerator, x.denominator), (y.numerator, y.denominator))


def table(a, b, c, d):
    return Table(*[num(Fraction(entry)) for entry in (a, b, c, d)])


def motion(a, b, c, d, x=0, y=0):
    return Motion(table(a, b, c, d), spot(x, y))


def nested(depth, last=None, kind=tuple):
    value = last
    for _ in range(depth):
        value = kind([value])
    return value


NOT_FRACTIONS = [
    None, True, False, 0, 1, -3, BIG, "", "0", "1/2", (), (0,), (1, 2, 3), [0, 1], [1, 2],
    (2, 4), (0, 2), (0, 0), (1, 0), (0, -1), (1, -1), (-1, -2), (3, 3), (BIG, BIG),
    (True, 1), (False, 1), (1, True), (0, True), (True, True), (None, 1), (1, None),
    ("1", "2"), ("1", 1), (1, "1"), ((0, 1), (0, 1)), ((0, 1), 1), (1, (1, 1)), [(0, 1)],
    ((0, 1),), nested(12), nested(12, (0, 1)), nested(12, 0, list),
    table(1, 0, 0, 1), (table(1, 0, 0, 1), 1), motion(1, 0, 0, 1), Flat(), Flat.whole(),
    errors.Singular(), errors.InvalidSpot((0, 1)), Sheet("s", "turned"), Room(),
    Room(Sheet("s", "even"), marks=["a"]), (Sheet("a", "sized"), Room()), [Room()],
    "mark", "spot", ("mark",), ("mark", "a"), ["mark", "a"], ("a", ((0, 1), (0, 1))),
    land_of(Room(), tables={}, moves={}, places={}), Space(Room()), Ledger(Room(marks=["a"])),
    (Space(Room(marks=["a"])), [Ledger(Room())]),
    joint(Space(Room(Sheet("s", "even"))), "s", "s"), MapRoom(), (MapRoom(), [MapRoom()]),
]
FRACTIONS = [
    (0, 1), (1, 1), (-1, 1), (1, 2), (-1, 2), (3, 4), (-7, 3), (BIG, 1), (-BIG, BIG + 1),
    (1, BIG), (BIG ** 30, BIG ** 30 + 1),
]
NOT_SPOTS = NOT_FRACTIONS[:15] + [
    ((0, 1),), ((0, 1), (0, 1), (0, 1)), [(0, 1), (0, 1)], ((0, 1), [0, 1]), ([0, 1], (0, 1)),
    ([0, 1], [0, 1]), ((2, 4), (0, 1)), ((0, 1), (2, 4)), ((0, 1), (1, 0)), ((0, 1), (1, -1)),
    ((True, 1), (0, 1)), ((0, 1), (False, 1)), ((0, 1), (0, True)), ((0, 1), None),
    (None, (0, 1)), ((0, 1), "0"), ((0, 1), 0), (0, 1), (((0, 1), (0, 1)),), nested(12),
    nested(11, ((0, 1), (0, 1))), ((0, 1), table(1, 0, 0, 1)), (Flat(), Flat()),
    table(0, 0, 0, 0), motion(1, 0, 0, 1), Flat(((0, 1), (0, 1))), errors.InLine(),
]
SPOTS = [
    ((0, 1), (0, 1)), ((1, 1), (0, 1)), ((0, 1), (-1, 2)), ((-2, 3), (5, 7)),
    ((BIG, 1), (-BIG, BIG - 2)), ((BIG ** 30, 1), (1, BIG ** 30)),
]
ANY_VALUES = NOT_FRACTIONS + FRACTIONS + NOT_SPOTS + SPOTS

NAMES = ["a", "z", "end", "mark", "sheet", "spot", "abcdef", "zzzzzz"]
NOT_NAMES = NOT_FRACTIONS[:15] + [
    "A", "aB", "abcdefg", "a1", "1", "a ", " a", "a b", "a\n", "\n", " ", "a:b", "a_b", "-a",
    "\u00e9", "a\u00df", "\u0561", ("a",), ["a"], nested(12, "a"), nested(3, "a", list), Flat(),
    Sheet("a", "turned"), Room(Sheet("a", "turned"), marks=["a"]), errors.InvalidName("a"),
]
KINDS = ["slanted", "turned", "mirrored", "stretched", "sized", "even"]
NOT_KINDS = NOT_NAMES + NAMES + [
    "Even", "EVEN", "even ", " even", "eve", "evenn", "free", "slanted,turned", ("even",),
    ["even"], tuple(KINDS), KINDS, Sheet("even", "even"),
]


def some_fraction(rng, most=4):
    return num(rng.randint(-most, most), rng.randint(1, most))


def some_spot(rng, most=4):
    return (some_fraction(rng, most), some_fraction(rng, most))


def some_table(rng, most=4):
    return Table(*[some_fraction(rng, most) for _ in range(4)])


def some_motion(rng, most=4):
    return Motion(some_table(rng, most), some_spot(rng, most))


def numbers_of(rng, many):
    """Numbers of up to 200 digits, of either sign."""
    return [rng.choice((-1, 1)) * rng.randrange(10 ** rng.choice((1, 2, 20, 200)))
            for _ in range(many)]


class Case(unittest.TestCase):
    def setUp(self):
        self.rng = Random(20)

    def fails(self, error, told, call, /, *given, **named):
        """Checks that the call raises this very error class, with exactly the told values."""
        try:
            result = call(*given, **named)
        except Exception as caught:
            self.assertIs(type(caught), error, repr(caught))
            self.assertEqual(caught.code, error.__name__)
            for name, value in told.items():
                self.same(getattr(caught, name), value)
            return
        self.fail(f"{error.__name__} is not raised, but {result!r} returned")

    def same(self, one, other):
        """Equal, and of the same kinds throughout, so that True is not taken for 1."""
        self.assertIs(type(one), type(other))
        if isinstance(one, (list, tuple)):
            self.assertEqual(len(one), len(other))
            for left, right in zip(one, other):
                self.same(left, right)
        elif isinstance(one, dict):
            self.same(list(one.items()), list(other.items()))
        elif not isinstance(one, Exception):
            self.assertEqual(one, other)
