"""Whole lands in which claims do not hold."""

from lostland.claims import is_plain
from lostland.pressing import regular_of
from lostland.whole import whole_land


def land_without(space, claims):
    """A whole land in which none of the claims holds, of a space that stands.

    Each of the claims is plain, line or side, and does not hold in all lands.
    """
    land = whole_land(space)
    for at, claim in enumerate(claims):
        if land.holds(claim):
            other = _some_land_without(space, claim)
            # Only a few multiples of the other land bring back an earlier claim, or crush a sheet.
            while not land.is_whole or _has_one_of(land, claims[:at + 1]):
                land = land + other
    return land


def _some_land_without(space, claim):
    """A land, perhaps a crushing one, in which a claim does not hold."""
    base = space.base()
    if not is_plain(claim):
        return regular_of(base, [land.step_table(claim) for land in base])
    return [land for land in base if not land.holds(claim)][0]


def _has_one_of(land, claims):
    """Whether one of the claims holds in the land."""
    return any([land.holds(claim) for claim in claims])
