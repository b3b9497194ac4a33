"""An independent judge of rooms: rows, ranks and lands by Fraction, and rooms drawn from lands."""

from fractions import Fraction

from lostland.lands import land_of
from lostland.motions import Motion
from lostland.rooms import Room
from lostland.sheets import Sheet
from lostland.tables import Table
from tests.support import frac, num, some_fraction, some_spot

HALF = Fraction(1, 2)
# Row by row, the own number and its sign, or None.
ENTRIES = {
    "slanted": [[(0, 1), (1, 1)], [(2, 1), (3, 1)]],
    "turned": [[(0, 1), (1, -1)], [(1, 1), (0, 1)]],
    "mirrored": [[(0, 1), (1, 1)], [(1, 1), (0, -1)]],
    "stretched": [[(0, 1), None], [None, (1, 1)]],
    "sized": [[(0, 1), None], [None, (0, 1)]],
    "even": [[(0, 1), None], [None, (0, 1)]],
}
COUNTS = {"slanted": 4, "turned": 2, "mirrored": 2, "stretched": 2, "sized": 1}
ALL_KINDS = list(ENTRIES)
FREE = ["slanted", "turned", "mirrored"]


def expected_unknowns(room):
    found = []
    for sheet in room.sheets():
        found += [("move", sheet.name, 0), ("move", sheet.name, 1)]
        if sheet.kind != "even":
            found += [("table", sheet.name, k) for k in range(COUNTS[sheet.kind])]
    for mark in room.marks():
        found += [("place", mark, 0), ("place", mark, 1)]
    if any(sheet.kind == "even" for sheet in room.sheets()):
        found.append(("scale",))
    return sorted(found)


def added(*parts):
    """The sum of dicts times weights, from pairs (weight, dict)."""
    total = {}
    for weight, terms in parts:
        for key, value in terms.items():
            total[key] = total.get(key, 0) + Fraction(weight) * value
    return {key: value for key, value in total.items() if value != 0}


def entry(room, name, row, column):
    kind = room.sheet(name).kind
    part = ENTRIES[kind][row][column]
    if part is None:
        return {}
    unknown = ("scale",) if kind == "even" else ("table", name, part[0])
    return {unknown: Fraction(part[1])}


def place(room, point, axis):
    if point[0] == "mark":
        return {("place", point[1], axis): Fraction(1)}
    x, y = map(frac, point[2])
    name = point[1]
    return added((1, {("move", name, axis): Fraction(1)}), (x, entry(room, name, axis, 0)),
                 (y, entry(room, name, axis, 1)))


def gap(room, claim, axis):
    first = place(room, claim[1], axis)
    if claim[0] == "same":
        return added((1, first), (-1, place(room, claim[2], axis)))
    if claim[0] == "middle":
        return added((1, first), (-HALF, place(room, claim[2], axis)),
                     (-HALF, place(room, claim[3], axis)))
    parts = [(-frac(weight), place(room, point, axis)) for weight, point in claim[2]]
    return added((1, first), *parts)


def step(room, start, end, axis):
    return added((1, place(room, end, axis)), (-1, place(room, start, axis)))


def steps(room, claim):
    """The two steps of a claim line or side, each as a list of two dicts."""
    pairs = [(claim[1], claim[2]), (claim[1], claim[3])]
    if claim[0] == "side":
        pairs[1] = (claim[3], claim[4])
    return [[step(room, start, end, axis) for axis in (0, 1)] for start, end in pairs]


def rows(room, told=()):
    """The list of pairs (key, dict), in the order of the rows."""
    found = []
    for sheet in room.sheets():
        for mark, spot in sheet.readings():
            for axis in (0, 1):
                key = ("reading", sheet.name, mark, axis)
                found.append((key, added((1, place(room, ("spot", sheet.name, spot), axis)),
                                         (-1, place(room, ("mark", mark), axis)))))
    for at, claim in enumerate(told):
        found += [(("told", at, axis), gap(room, claim, axis)) for axis in (0, 1)]
    return found


def less_multiple(vector, factor, row):
    """The vector minus a multiple of a row."""
    found = dict(vector)
    for key, weight in row.items():
        rest = found.pop(key, 0) - factor * weight
        if rest:
            found[key] = rest
    return found


def forward(vectors):
    """A list of pairs (pivot, vector), each pivot 1 there and absent from all later vectors."""
    found = []
    for vector in vectors:
        for pivot, row in found:
            if pivot in vector:
                vector = less_multiple(vector, vector[pivot], row)
        if vector:
            pivot = max(vector)
            found.append((pivot, {key: weight / vector[pivot] for key, weight in vector.items()}))
    return found


def steps_down(vectors):
    """A list of pairs (pivot, vector), each pivot 1 there and absent from all other vectors."""
    found = []
    for pivot, vector in reversed(forward(vectors)):
        for later, row in found:
            if later in vector:
                vector = less_multiple(vector, vector[later], row)
        found.append((pivot, vector))
    return found


def rank(vectors):
    return len(forward(vectors))


def is_spanned(vectors, vector):
    return rank(vectors) == rank(list(vectors) + [vector])


def null_base(room, told=()):
    """Dicts from all unknowns to Fractions, one for each freedom."""
    found = dict(steps_down([row for _, row in rows(room, told)]))
    all_unknowns = expected_unknowns(room)
    base = []
    for free in all_unknowns:
        if free not in found:
            values = {key: Fraction(0) for key in all_unknowns}
            values[free] = Fraction(1)
            for pivot, row in found.items():
                values[pivot] = -row.get(free, Fraction(0))
            base.append(values)
    return base


def value(form, values):
    """The value of a dict over unknowns."""
    return sum((weight * values[key] for key, weight in form.items()), Fraction(0))


def as_dict(form):
    return {key: frac(weight) for key, weight in form}


def as_form(terms):
    return tuple(sorted((key, num(weight)) for key, weight in terms.items() if weight != 0))


def multiplied_out(room, told, total):
    """The form of a sum, as a dict."""
    known = dict(rows(room, told))
    return added(*[(frac(weight), known[key]) for key, weight in total])


def det(quad):
    (a, b), (c, d) = quad
    return a * d - b * c


def table_at(room, name, values):
    return [[value(entry(room, name, row, column), values) for column in (0, 1)]
            for row in (0, 1)]


def step_table_at(room, claim, values):
    first, second = steps(room, claim)
    return [[value(first[axis], values), value(second[axis], values)] for axis in (0, 1)]


def is_always_flat(quads):
    """Whether all sums of multiples of some 2 by 2 tables are singular."""
    for at, one in enumerate(quads):
        for other in quads[at:]:
            both = [[one[r][c] + other[r][c] for c in (0, 1)] for r in (0, 1)]
            if det(one) != 0 or det(both) != 0:
                return False
    return True


def pressed_names(room, told=()):
    base = null_base(room, told)
    return [sheet.name for sheet in room.sheets()
            if is_always_flat([table_at(room, sheet.name, values) for values in base])]


def land_from(room, values):
    """The land with these values, a dict from all unknowns to Fractions, by land_of."""
    tables, moves = {}, {}
    for sheet in room.sheets():
        quad = table_at(room, sheet.name, values)
        tables[sheet.name] = Table(*[num(item) for row in quad for item in row])
        moves[sheet.name] = tuple(num(values["move", sheet.name, k]) for k in (0, 1))
    places = {mark: tuple(num(values["place", mark, k]) for k in (0, 1)) for mark in room.marks()}
    return land_of(room, tables=tables, moves=moves, places=places)


def mixed_values(rng, base, room):
    """The values of a sum of drawn multiples of a base."""
    total = {key: Fraction(0) for key in expected_unknowns(room)}
    for values in base:
        weight = Fraction(rng.randint(-5, 5), rng.randint(1, 3))
        for key in total:
            total[key] += weight * values[key]
    return total


def some_table(rng, kind, even):
    """A table of a kind that is not singular."""
    while True:
        numbers = [some_fraction(rng) for _ in range(4)]
        if kind == "even":
            numbers = [even] * 4
        quad = [[(0, 1) if part is None else num(part[1] * frac(numbers[part[0]]))
                 for part in row] for row in ENTRIES[kind]]
        table = Table(*quad[0], *quad[1])
        if table.det != (0, 1):
            return table


def drawn(rng, kinds, marks, loose=0, often=0.6):
    """A room whose sheets show a drawn whole land, and this land."""
    even = num(rng.choice([-2, -1, 1, 2, 3]))
    names = "stuvwxyz"[:len(kinds)]
    places = {mark: some_spot(rng) for mark in "abcdefghijkl"[:marks]}
    tables = {name: some_table(rng, kind, even) for name, kind in zip(names, kinds)}
    moves = {name: some_spot(rng) for name in names}
    sheets = []
    for name, kind in zip(names, kinds):
        back = Motion(tables[name], moves[name]).inverse()
        read = [mark for mark in places if rng.random() < often]
        rng.shuffle(read)
        sheets.append(Sheet(name, kind, [(mark, back(places[mark])) for mark in read]))
    extra = ["x", "y", "z"][:loose]
    places.update({mark: some_spot(rng) for mark in extra})
    room = Room(*sheets, marks=list(places))
    return room, land_of(room, tables=tables, moves=moves, places=places)


def some_kinds(rng, many, kinds=tuple(ALL_KINDS)):
    return [rng.choice(kinds) for _ in range(many)]


def some_point(rng, room):
    names = room.names()
    if names and (rng.random() < 0.4 or not room.marks()):
        return ("spot", rng.choice(names), some_spot(rng, 2))
    return ("mark", rng.choice(room.marks()))


def some_plain(rng, room):
    """A drawn plain claim."""
    points = [some_point(rng, room) for _ in range(5)]
    word = rng.choice(["same", "middle", "mix"])
    if word == "same":
        return (word, *points[:2])
    if word == "middle":
        return (word, *points[:3])
    many = rng.randint(1, 4)
    weights = [Fraction(rng.randint(-3, 3), rng.randint(1, 3)) for _ in range(many - 1)]
    weights.append(1 - sum(weights))
    return (word, points[4], tuple((num(weight), point)
                                   for weight, point in zip(weights, points)))


def some_claim(rng, room):
    """A drawn claim of any word."""
    word = rng.choice(["plain", "plain", "not", "line", "side"])
    if word == "plain":
        return some_plain(rng, room)
    if word == "not":
        return (word, some_plain(rng, room))
    return (word, *[some_point(rng, room) for _ in range(3 if word == "line" else 4)])


def true_plain(rng, room, land):
    """A drawn plain claim that holds in a land that crushes no sheet."""
    first, second = some_point(rng, room), some_point(rng, room)
    weights = [Fraction(rng.randint(-2, 2), rng.randint(1, 2))]
    weights.append(1 - weights[0])
    spots = [land.place(first), land.place(second)]
    target = tuple(num(sum(weight * frac(spot[k]) for weight, spot in zip(weights, spots)))
                   for k in (0, 1))
    name = rng.choice(room.names())
    point = ("spot", name, land.motion(name).inverse()(target))
    return ("mix", point, tuple(zip([num(weight) for weight in weights], [first, second])))
