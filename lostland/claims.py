"""Claims of a room, sayings, and their texts."""

from lostland.errors import InvalidClaim
from lostland.exact import (
    ONE, ZERO, fraction_text, is_fraction, is_pair, negative, plus, read_fraction)
from lostland.points import any_point_of, is_any_point, is_point, point_text

MOST_CLAIMS = 4
_MOST_PARTS = 4
_HALF = (1, 2)
# How many points make a claim with this word; mix and not have more than points.
_POINTS = {"same": 2, "middle": 3, "line": 3, "side": 4}


def check_claim(room, claim, at=0):
    """Raises unless the value is a claim of the room."""
    if not _has_form(claim):
        raise InvalidClaim(at, "form")
    if not all([is_point(room, point) for point in points_of(claim)]):
        raise InvalidClaim(at, "point")
    if not _is_balanced(claim):
        raise InvalidClaim(at, "weights")


def check_saying(room, saying):
    """Raises unless the value is a saying of the room."""
    if not isinstance(saying, (list, tuple)) or not 1 <= len(saying) <= MOST_CLAIMS:
        raise InvalidClaim(-1, "form")
    for at, claim in enumerate(saying):
        check_claim(room, claim, at)


def is_plain(claim):
    """Whether a claim is plain."""
    return claim[0] in ("same", "middle", "mix")


def claim_text(claim):
    """The text of a claim."""
    if claim[0] == "not":
        return f"not {claim_text(claim[1])}"
    if claim[0] == "mix":
        words = [point_text(claim[1])]
        for weight, point in claim[2]:
            words.extend([fraction_text(weight), point_text(point)])
    else:
        words = [point_text(point) for point in claim[1:]]
    return " ".join([claim[0]] + words)


def saying_text(saying):
    """The text of a saying."""
    return "; ".join([claim_text(claim) for claim in saying])


def read_claim(room, text, at=0):
    """The claim of the room with a text."""
    claim = _claim_of(text)
    check_claim(room, claim, at)
    return claim


def read_saying(room, text):
    """The list of the claims of the text of a saying."""
    parts = text.split("; ") if isinstance(text, str) else []
    if not 1 <= len(parts) <= MOST_CLAIMS:
        raise InvalidClaim(-1, "form")
    return [read_claim(room, part, at) for at, part in enumerate(parts)]


def gap_parts(claim):
    """The pairs (weight, point) of a plain claim: its gap is the sum of these places."""
    if claim[0] == "same":
        others = [(ONE, claim[2])]
    elif claim[0] == "middle":
        others = [(_HALF, claim[2]), (_HALF, claim[3])]
    else:
        others = list(claim[2])
    return [(ONE, claim[1])] + [(negative(weight), point) for weight, point in others]


def steps_of(claim):
    """The two steps of a claim line or side, as pairs (start, end) of points."""
    if claim[0] == "line":
        return [(claim[1], claim[2]), (claim[1], claim[3])]
    return [(claim[1], claim[2]), (claim[3], claim[4])]


def _has_form(value):
    """Whether any value is a claim of some room, the sum of its weights left aside."""
    if is_pair(value) and value[0] == "not":
        return _has_plain_form(value[1])
    return _has_plain_form(value) or _has_points(value, ("line", "side"))


def _has_plain_form(value):
    """Whether any value is a plain claim of some room, the sum of its weights left aside."""
    if _has_points(value, ("same", "middle")):
        return True
    if not isinstance(value, tuple) or len(value) != 3 or value[0] != "mix":
        return False
    return is_any_point(value[1]) and _are_parts(value[2])


def _has_points(value, words):
    """Whether any value is one of these words with as many points as it takes, and no more."""
    if not isinstance(value, tuple) or value == () or value[0] not in words:
        return False
    points = value[1:]
    return len(points) == _POINTS[value[0]] and all([is_any_point(point) for point in points])


def _are_parts(value):
    """Whether any value is the tuple of parts of a mix, the sum of the weights left aside."""
    if not isinstance(value, tuple) or not 1 <= len(value) <= _MOST_PARTS:
        return False
    return all([is_pair(part) and is_fraction(part[0]) and is_any_point(part[1])
                for part in value])


def points_of(claim):
    """The points of a claim, in order."""
    if claim[0] == "not":
        return points_of(claim[1])
    if claim[0] == "mix":
        return [claim[1]] + [point for _, point in claim[2]]
    return list(claim[1:])


def _is_balanced(claim):
    """Whether the sum of the weights is 1 where the claim has weights."""
    if claim[0] == "not":
        return _is_balanced(claim[1])
    if claim[0] != "mix":
        return True
    total = ZERO
    for weight, _ in claim[2]:
        total = plus(total, weight)
    return total == ONE


def _claim_of(text):
    """A value that is the claim with a text, where the text is one of some room."""
    words = text.split(" ") if isinstance(text, str) else []
    if words[:1] == ["not"]:
        return ("not", _simple_claim(words[1:]))
    return _simple_claim(words)


def _simple_claim(words):
    """A value that is the claim with these words, where they are those of one without not."""
    points = [any_point_of(word) for word in words[1:]]
    if words[:1] != ["mix"]:
        return tuple(words[:1] + points)
    weights = [read_fraction(word) for word in words[2::2]]
    if len(points) != 2 * len(weights) + 1:
        return None
    return ("mix", points[0], tuple(zip(weights, points[2::2])))
