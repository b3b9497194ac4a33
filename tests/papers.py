"""An independent judge of sums, grounds and papers, and values bent at any one place."""

from fractions import Fraction
from math import gcd

from lostland.lands import Land
from tests import oracle
from tests.support import frac

OTHERS = [None, True, False, 0, 1, -1, 2, "", "s", "a", "spot", "land", "rows", "follows", "told", (), [],
          (0, 1), (1, 1), (1, 0), (0, 0), (2, 4), ((),), ("told", 0, 0), (("told", 0, 0), (1, 1))]


def bent(value):
    """Values that differ from the given one at one place, or nowhere."""
    yield from OTHERS
    if isinstance(value, tuple):
        yield list(value)
        yield value + value[:1]
        yield value[::-1]
        for at, item in enumerate(value):
            yield value[:at] + value[at + 1:]
            yield value[:at] + (item,) + value[at:]
            yield value[:at] + value[at:][1:2] + (item,) + value[at + 2:]
            for other in bent(item):
                yield value[:at] + (other,) + value[at + 1:]
    elif isinstance(value, bool):
        yield int(value)
    elif isinstance(value, int):
        yield from (value + 1, -value, 2 * value, value == 1, value - 7)
    elif isinstance(value, str):
        yield from (value + "x", value[:-1], value.upper(), (value,))
    elif isinstance(value, Land):
        yield from (value.scaled((2, 1)), value.scaled((0, 1)), value + value, (value,))


def some_bent(rng, value, most):
    """Some of the bent values."""
    found = list(bent(value))
    return rng.sample(found, min(most, len(found)))


def is_same(one, other):
    """Equal, and of the same kinds throughout."""
    if type(one) is not type(other):
        return False
    if isinstance(one, tuple):
        return len(one) == len(other) and all(is_same(*pair) for pair in zip(one, other))
    return one == other


def is_fraction(value):
    return (type(value) is tuple and len(value) == 2 and all(type(part) is int for part in value)
            and value[1] > 0 and gcd(*value) == 1)


def is_direction(value):
    return (type(value) is tuple and len(value) == 2 and all(type(part) is int for part in value)
            and gcd(*value) == 1 and value > (0, 0))


def mixture_of(known, value):
    """The sum of dicts times weights that a sum or form stands for; None for any other value."""
    if type(value) is not tuple:
        return None
    parts, last = [], None
    for pair in value:
        if type(pair) is not tuple or len(pair) != 2 or not is_fraction(pair[1]) or pair[1][0] == 0:
            return None
        key, weight = pair
        if not any(is_same(key, own) for own in known) or (last is not None and not last < key):
            return None
        last = key
        parts.append((frac(weight), known[key]))
    return oracle.added(*parts)


def form_of_sum(room, told, value):
    return mixture_of(dict(oracle.rows(room, told)), value)


def form_of_form(room, value):
    return mixture_of({key: {key: Fraction(1)} for key in oracle.expected_unknowns(room)}, value)


def are_sums(room, told, values, forms):
    """Whether values are sums that multiply out to these forms."""
    return all(form_of_sum(room, told, value) == form for value, form in zip(values, forms))


def has_shape(value, many, words):
    return type(value) is tuple and len(value) == many and type(value[0]) is str and value[0] in words


def is_crushed_paper(room, told, value):
    if not has_shape(value, 6, ["crushed"]) or not is_direction(value[3]):
        return False
    _, name, side, across, *sums = value
    if name not in room.names() or side not in ("spot", "land"):
        return False
    forms = []
    for axis in (0, 1):
        entries = [oracle.entry(room, name, axis, at) if side == "spot" else
                   oracle.entry(room, name, at, axis) for at in (0, 1)]
        forms.append(oracle.added(*zip(across, entries)))
    return are_sums(room, told, sums, forms)


def gaps(room, claim):
    return [oracle.gap(room, claim, axis) for axis in (0, 1)]


def is_ground(room, told, claim, value):
    if claim[0] == "not":
        return is_crushed_paper(room, told + [claim[1]], value)
    if claim[0] not in ("line", "side"):
        return has_shape(value, 3, ["rows"]) and are_sums(room, told, value[1:], gaps(room, claim))
    if not has_shape(value, 4, ["ratio", "direction"]) or not is_direction(value[1]):
        return False
    word, (s, t), *sums = value
    first, second = oracle.steps(room, claim)
    if word == "ratio":
        forms = [oracle.added((s, first[axis]), (t, second[axis])) for axis in (0, 1)]
    else:
        forms = [oracle.added((s, step[0]), (t, step[1])) for step in (first, second)]
    return are_sums(room, told, sums, forms)


def values_of(land):
    return {key: frac(land.value_of(key)) for key in oracle.expected_unknowns(land.room)}


def is_whole_land(room, told, value):
    if type(value) is not Land or value.room != room:
        return False
    values = values_of(value)
    return (all(oracle.value(terms, values) == 0 for _, terms in oracle.rows(room, told))
            and all(oracle.det(oracle.table_at(room, name, values)) != 0 for name in room.names()))


def holds(room, land, saying):
    values = values_of(land)
    for claim in saying:
        if claim[0] in ("line", "side"):
            good = oracle.det(oracle.step_table_at(room, claim, values)) == 0
        else:
            plain = claim[1] if claim[0] == "not" else claim
            good = all(oracle.value(gap, values) == 0 for gap in gaps(room, plain))
            good = good != (claim[0] == "not")
        if not good:
            return False
    return True


def is_never_paper(room, told, saying, value):
    more = told + [claim for claim in saying if claim[0] in ("same", "middle", "mix")]
    if is_crushed_paper(room, more, value):
        return True
    if not has_shape(value, 4, ["follows"]) or type(value[1]) is not int:
        return False
    _, at, *sums = value
    return (at in range(len(saying)) and saying[at][0] == "not"
            and are_sums(room, more, sums, gaps(room, saying[at][1])))


def is_judge_paper(room, told, saying, value):
    if type(value) is not tuple or not value or type(value[0]) is not str:
        return False
    word, *parts = value
    has_steps = any(claim[0] in ("line", "side") for claim in saying)
    if word == "surely":
        return (len(parts) == len(saying)
                and all(is_ground(room, told, *pair) for pair in zip(saying, parts)))
    if word == "never":
        return len(parts) == 1 and is_never_paper(room, told, saying, parts[0])
    if not all(is_whole_land(room, told, part) for part in parts):
        return False
    if word == "open" and not has_steps and len(parts) == 2:
        return holds(room, parts[0], saying) and not holds(room, parts[1], saying)
    return word == "unsure" and has_steps and len(parts) == 1 and not holds(room, parts[0], saying)


def square_matrix(room, told, name):
    """The determinant of a sheet over a base of lands, twice, as the table of a square form."""
    quads = [oracle.table_at(room, name, values) for values in oracle.null_base(room, told)]
    return [[one[0][0] * other[1][1] + one[1][1] * other[0][0] - one[0][1] * other[1][0]
             - one[1][0] * other[0][1] for other in quads] for one in quads]


def is_hand_paper(room, told, name, value):
    if type(value) is not tuple or not value or type(value[0]) is not str:
        return False
    if value[0] == "either" and len(value) == 3:
        if not all(is_whole_land(room, told, land) for land in value[1:]):
            return False
        one, other = [oracle.det(oracle.table_at(room, name, values_of(land))) for land in value[1:]]
        return one > 0 > other
    if value[0] not in ("right", "left") or len(value) != 2 or type(value[1]) is not tuple:
        return False
    squares = []
    for pair in value[1]:
        if type(pair) is not tuple or len(pair) != 2 or not is_fraction(pair[0]) or pair[0][0] <= 0:
            return False
        terms = form_of_form(room, pair[1])
        if terms is None:
            return False
        squares.append((frac(pair[0]), terms))
    turn = 1 if value[0] == "right" else -1
    base = oracle.null_base(room, told)
    for row, one in zip(square_matrix(room, told, name), base):
        for item, other in zip(row, base):
            total = sum(2 * weight * oracle.value(terms, one) * oracle.value(terms, other)
                        for weight, terms in squares)
            if total != turn * item:
                return False
    return True


def is_number_at(value, places):
    """Whether a value is a number, and one of these places."""
    return type(value) is int and value in places
