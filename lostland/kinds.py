"""The six kinds of sheets, and the tables that each of them allows."""

from lostland.exact import ONE, ZERO, times
from lostland.tables import Table

KINDS = ("slanted", "turned", "mirrored", "stretched", "sized", "even")

# For the entries a, b, c and d of the tables of a kind: which own number, times which weight.
_ENTRIES = {
    "slanted": ((0, 1), (1, 1), (2, 1), (3, 1)),
    "turned": ((0, 1), (1, -1), (1, 1), (0, 1)),
    "mirrored": ((0, 1), (1, 1), (1, 1), (0, -1)),
    "stretched": ((0, 1), (0, 0), (0, 0), (1, 1)),
    "sized": ((0, 1), (0, 0), (0, 0), (0, 1)),
    "even": ((0, 1), (0, 0), (0, 0), (0, 1)),
}


def is_kind(value):
    """Whether any value is a kind."""
    return isinstance(value, str) and value in KINDS


def is_free_kind(kind):
    """Whether a kind is free."""
    return kind in ("slanted", "turned", "mirrored")


def own_count(kind):
    """The number of own numbers of a kind."""
    return max([own for own, _ in _ENTRIES[kind]]) + 1


def entry_part(kind, row, column):
    """The pair (own, weight) of an entry, which is the own number with this index times it."""
    own, weight = _ENTRIES[kind][2 * row + column]
    return (own, (weight, 1))


def table_of(kind, numbers):
    """The table of a kind with these own numbers."""
    a, b, c, d = [times(numbers[own], (weight, 1)) for own, weight in _ENTRIES[kind]]
    return Table(a, b, c, d)


def own_numbers(kind, table):
    """The list of the own numbers of a table; None if it does not fit the kind."""
    entries = table.entries()
    owns = [own for own, _ in _ENTRIES[kind]]
    numbers = []
    for own in range(own_count(kind)):
        at = owns.index(own)
        # A weight of 1 or -1 is undone by itself.
        numbers.append(times(entries[at], (_ENTRIES[kind][at][1], 1)))
    return numbers if table_of(kind, numbers) == table else None


def fits(kind, table):
    """Whether a table is one of the kind."""
    return own_numbers(kind, table) is not None


def stays(kind, table, other):
    """Whether each table of a kind, times the table, is of the kind other; even counts as sized."""
    return all([fits(other, unit * table) for unit in _units(kind)])


def is_narrower(kind, other):
    """Whether each table of a kind is one of the kind other."""
    if kind == "sized" and other == "even":
        # A sized sheet alone need not have the number of the even sheets of its room.
        return False
    return stays(kind, Table.identity(), other)


def _units(kind):
    """Tables of which each table of a kind is a sum of multiples."""
    count = own_count(kind)
    return [table_of(kind, [ONE if at == own else ZERO for at in range(count)])
            for own in range(count)]
