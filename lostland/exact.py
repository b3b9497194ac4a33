"""Fractions, spots, vectors and directions, exact throughout."""

from math import gcd

from lostland.errors import ZeroDivisor

ZERO = (0, 1)
ONE = (1, 1)

_MOST_DIGITS = 4000
_BLOCK_DIGITS = 64
_BLOCK = 10 ** 64


def is_number(value):
    """Whether any value is a number; True and False are none."""
    return isinstance(value, int) and not isinstance(value, bool)


def is_pair(value):
    """Whether any value is a tuple of two items."""
    return isinstance(value, tuple) and len(value) == 2


def is_fraction(value):
    """Whether any value is a fraction."""
    if not is_pair(value) or not is_number(value[0]) or not is_number(value[1]):
        return False
    return value[1] > 0 and gcd(value[0], value[1]) == 1


def is_spot(value):
    """Whether any value is a spot."""
    return is_pair(value) and is_fraction(value[0]) and is_fraction(value[1])


def is_direction(value):
    """Whether any value is a direction."""
    if not is_pair(value) or not is_number(value[0]) or not is_number(value[1]):
        return False
    across, along = value
    return gcd(across, along) == 1 and (across > 0 or (across == 0 and along > 0))


def fraction(over, under=1):
    """The fraction over / under."""
    if under == 0:
        raise ZeroDivisor()
    shared = gcd(over, under)
    if under < 0:
        shared = -shared
    return (over // shared, under // shared)


def plus(one, other):
    """The sum of two fractions."""
    return fraction(one[0] * other[1] + other[0] * one[1], one[1] * other[1])


def minus(one, other):
    """The difference of two fractions."""
    return plus(one, negative(other))


def times(one, other):
    """The product of two fractions."""
    return fraction(one[0] * other[0], one[1] * other[1])


def divided(one, other):
    """The quotient of two fractions."""
    return fraction(one[0] * other[1], one[1] * other[0])


def negative(one):
    """The fraction times -1."""
    return (-one[0], one[1])


def sign(one):
    """-1, 0 or 1: the sign of a fraction."""
    if one[0] == 0:
        return 0
    return 1 if one[0] > 0 else -1


def is_less(one, other):
    """Whether the first fraction is below the second one."""
    return one[0] * other[1] < other[0] * one[1]


def fraction_text(one):
    """The text of a fraction."""
    if one[1] == 1:
        return _number_text(one[0])
    return f"{_number_text(one[0])}/{_number_text(one[1])}"


def _number_text(number):
    """The digits of a number, by blocks, as str alone refuses very long numbers."""
    blocks = []
    rest = abs(number)
    while rest >= _BLOCK:
        rest, low = divmod(rest, _BLOCK)
        blocks.append(str(low).zfill(_BLOCK_DIGITS))
    blocks.append(str(rest))
    digits = "".join(reversed(blocks))
    return f"-{digits}" if number < 0 else digits


def read_fraction(text):
    """The fraction with a text; None for any value that is none."""
    if not isinstance(text, str):
        return None
    if "/" not in text:
        over = _read_number(text)
        return None if over is None else (over, 1)
    first, _, second = text.partition("/")
    over = _read_number(first)
    under = _read_number(second)
    if over is None or under is None or under < 2 or gcd(over, under) > 1:
        return None
    return (over, under)


def _read_number(text):
    """The number that is written so; None if none is."""
    digits = text.removeprefix("-")
    if not digits.isascii() or not digits.isdigit() or len(digits) > _MOST_DIGITS:
        return None
    if digits[0] == "0" and text != "0":
        return None
    return int(text)


def direction(vector):
    """The direction of a vector that is not zero."""
    across = vector[0][0] * vector[1][1]
    along = vector[1][0] * vector[0][1]
    shared = gcd(across, along)
    if shared == 0:
        raise ZeroDivisor()
    if across < 0 or (across == 0 and along < 0):
        shared = -shared
    return (across // shared, along // shared)


def vector_plus(one, other):
    """The sum of two vectors."""
    return (plus(one[0], other[0]), plus(one[1], other[1]))


def vector_minus(one, other):
    """The difference of two vectors."""
    return (minus(one[0], other[0]), minus(one[1], other[1]))


def vector_times(vector, weight):
    """The multiple of a vector by a fraction."""
    return (times(vector[0], weight), times(vector[1], weight))
