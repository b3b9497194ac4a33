"""Ledgers, which take the rows of a space one by one."""

from lostland.errors import NothingLeft, RowStands, UnknownRow
from lostland.forms import unknowns
from lostland.spaces import check_told
from lostland.stairs import cleared, lead_of
from lostland.sums import is_row_key, row_form, row_keys
from lostland.vectors import form_vector, tagged_sum


class Ledger:
    """Rows that were put, each one either kept, or followed by those kept ahead of it."""

    def __init__(self, room, *, told=()):
        check_told(room, told)
        self._room = room
        self._told = list(told)
        # Pairs of a key and the sum of a followed row, None for a kept one.
        self._rows = []
        self._steps = []

    def put(self, key):
        """Puts a row; returns whether it is kept."""
        form = row_form(self._room, key, self._told)
        if key in self:
            raise RowStands(key)
        keys = row_keys(self._room, self._told)
        many = len(unknowns(self._room))
        tag = many + keys.index(key)
        rest = cleared(self._steps, form_vector(self._room, form, tag))
        lead = lead_of(rest, many)
        if lead is None:
            self._rows.append((key, tagged_sum(rest, tag, keys, many)))
            return False
        self._rows.append((key, None))
        self._steps.append((lead, rest))
        return True

    def kept(self):
        """The list of the keys of the kept rows, in the order in which they were put."""
        return [key for key, total in self._rows if total is None]

    def followed(self):
        """The list of the keys of the followed rows, in the order in which they were put."""
        return [key for key, total in self._rows if total is not None]

    def sum_of(self, key):
        """The sum of rows kept ahead of a followed row that has its form."""
        if key in self:
            for own, total in self._rows:
                if own == key and total is not None:
                    return total
        raise UnknownRow(key)

    def take_back(self):
        """Takes the row that was put last out; returns its key."""
        if self._rows == []:
            raise NothingLeft()
        key, total = self._rows.pop()
        if total is None:
            self._steps.pop()
        return key

    @property
    def rank(self):
        """The number of kept rows."""
        return len(self._steps)

    def twin(self):
        """An independent ledger in the same state."""
        other = Ledger(self._room, told=self._told)
        other._rows = list(self._rows)
        other._steps = list(self._steps)
        return other

    def __contains__(self, key):
        return (is_row_key(self._room, key, self._told)
                and key in [own for own, _ in self._rows])

    def __len__(self):
        return len(self._rows)

    def __bool__(self):
        return True

    def __repr__(self):
        return f"Ledger({len(self.kept())} kept, {len(self.followed())} followed)"
