"""Spaces: rooms with told claims, and all their lands."""

from lostland.claims import check_claim, is_plain
from lostland.errors import InvalidClaim, NotFollowing, TooMany
from lostland.forms import unknowns
from lostland.lands import Land
from lostland.stairs import cleared, lead_of, null_vectors, stairs_of
from lostland.sums import row_keys
from lostland.vectors import form_vector, row_vectors, tagged_sum, tagged_vectors

MOST_TOLD = 12


class Space:
    """A room and told claims; its lands are those in which the claims hold."""

    def __init__(self, room, *, told=()):
        check_told(room, told)
        self.room = room
        self._told = list(told)
        self._stairs = None
        self._tagged = None
        self._nulls = None

    def told(self):
        """The list of the told claims."""
        return list(self._told)

    @property
    def stairs(self):
        """The stairs of the rows, over the indexes of the unknowns."""
        if self._stairs is None:
            self._stairs = stairs_of(row_vectors(self.room, self._told), _many(self.room))
        return self._stairs

    @property
    def tagged(self):
        """The stairs of the rows with tags, which are indexes of row keys behind the unknowns."""
        if self._tagged is None:
            self._tagged = stairs_of(tagged_vectors(self.room, self._told), _many(self.room))
        return self._tagged

    @property
    def nulls(self):
        """The values of the unknowns in the lands of a base, as vectors."""
        if self._nulls is None:
            self._nulls = null_vectors(self.stairs, _many(self.room))
        return self._nulls

    @property
    def rank(self):
        """The most rows none of which is the form of a sum of the others."""
        return len(self.stairs)

    @property
    def freedoms(self):
        """The number of lands in a base."""
        return _many(self.room) - len(self.stairs)

    def base(self):
        """A list of lands of which each land is a sum of multiples, in only one way."""
        found = unknowns(self.room)
        return [Land(self.room, {key: (values.get(at, 0), 1) for at, key in enumerate(found)})
                for values in self.nulls]

    def has(self, value):
        """Whether any value is a land of the space."""
        if not isinstance(value, Land) or value.room != self.room:
            return False
        return all([value.holds(claim) for claim in self._told])

    def follows(self, form):
        """Whether a form is 0 in all lands."""
        return cleared(self.stairs, form_vector(self.room, form)) == {}

    def sum_for(self, form):
        """A sum of rows with this form."""
        keys = row_keys(self.room, self._told)
        many = _many(self.room)
        own = many + len(keys)
        rest = cleared(self.tagged, form_vector(self.room, form, own))
        if lead_of(rest, many) is not None:
            raise NotFollowing()
        return tagged_sum(rest, own, keys, many)

    def with_told(self, *claims):
        """The space with claims told behind the others."""
        return Space(self.room, told=self._told + list(claims))

    def also(self, claims):
        """The space with plain claims of its room told behind the others, however many."""
        more = Space(self.room)
        more._told = self._told + list(claims)
        return more

    def with_reading(self, name, mark, spot):
        """The space with one more reading, or with another one of the same mark."""
        return Space(self.room.with_reading(name, mark, spot), told=self._told)

    def without(self, name, mark):
        """The space without a reading."""
        return Space(self.room.without(name, mark), told=self._told)

    def is_within(self, other):
        """Whether the lands, by their values, are lands of the other space."""
        if unknowns(self.room) != unknowns(other.room):
            return False
        return all([cleared(self.stairs, stair) == {} for _, stair in other.stairs])

    def __eq__(self, other):
        return isinstance(other, Space) and self.is_within(other) and other.is_within(self)

    def __repr__(self):
        return f"Space({_many(self.room)} unknowns, {self.freedoms} freedoms)"


def check_told(room, told):
    """Raises unless the value is a list of told claims for a space with the room."""
    if not isinstance(told, (list, tuple)):
        raise InvalidClaim(-1, "form")
    if len(told) > MOST_TOLD:
        raise TooMany(MOST_TOLD)
    for at, claim in enumerate(told):
        check_claim(room, claim, at)
        if not is_plain(claim):
            raise InvalidClaim(at, "form")


def _many(room):
    """The number of unknowns."""
    return len(unknowns(room))
