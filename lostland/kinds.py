"""The six kinds of sheets, and the tables that each of them allows."""

from lostland.exact import ONE, ZERO, negative
from lostland.tables import Table

KINDS = ("slanted", "turned", "mirrored", "stretched", "sized", "even")

# Where the own numbers of a kind stand among the entries of its tables.
_OWN_PLACES = {
    "slanted": (0, 1, 2, 3),
    "turned": (0, 2),
    "mirrored": (0, 2),
    "stretched": (0, 3),
    "sized": (0,),
    "even": (0,),
}


def is_kind(value):
    """Whether any value is a kind."""
    return isinstance(value, str) and value in KINDS


def is_free_kind(kind):
    """Whether a kind is free."""
    return kind in ("slanted", "turned", "mirrored")


def own_count(kind):
    """The number of own numbers of a kind."""
    return len(_OWN_PLACES[kind])


def table_of(kind, numbers):
    """The table of a kind with these own numbers."""
    if kind == "slanted":
        a, b, c, d = numbers
        return Table(a, b, c, d)
    if own_count(kind) == 1:
        return Table(numbers[0], ZERO, ZERO, numbers[0])
    a, c = numbers
    if kind == "turned":
        return Table(a, negative(c), c, a)
    if kind == "mirrored":
        return Table(a, c, c, negative(a))
    return Table(a, ZERO, ZERO, c)


def own_numbers(kind, table):
    """The list of the own numbers of a table; None if it does not fit the kind."""
    entries = table.entries()
    numbers = [entries[at] for at in _OWN_PLACES[kind]]
    return numbers if table_of(kind, numbers) == table else None


def fits(kind, table):
    """Whether a table is one of the kind."""
    return own_numbers(kind, table) is not None


def stays(kind, table, other):
    """Whether each table of a kind, times the table, is of the kind other; even counts as sized."""
    return all([fits(other, unit * table) for unit in _units(kind)])


def is_narrower(kind, other):
    """Whether each table of a kind is one of the kind other."""
    if kind == "sized" and other == "even":
        # A sized sheet alone need not have the number of the even sheets of its room.
        return False
    return stays(kind, Table.identity(), other)


def _units(kind):
    """Tables of which each table of a kind is a sum of multiples."""
    count = own_count(kind)
    return [table_of(kind, [ONE if at == own else ZERO for at in range(count)])
            for own in range(count)]
