"""What surely holds, what never does, and how the steps of lines are bound."""

from lostland.claims import check_claim, check_saying, is_plain
from lostland.errors import InvalidClaim
from lostland.forms import AXES, gap_form
from lostland.pressing import common_press
from lostland.whole import check_stands, stands


def judge(space, saying):
    """The word of a saying."""
    check_saying(space.room, saying)
    check_stands(space)
    if all([is_sure(space, claim) for claim in saying]):
        return "surely"
    if not can_hold(space, saying):
        return "never"
    return "unsure" if any([has_steps(claim) for claim in saying]) else "open"


def surely(space, claim):
    """Whether a claim surely holds."""
    check_claim(space.room, claim)
    check_stands(space)
    return is_sure(space, claim)


def bond(space, claim):
    """The bond of a claim line or side; None if the claim does not surely hold."""
    check_claim(space.room, claim)
    if not has_steps(claim):
        raise InvalidClaim(0, "form")
    check_stands(space)
    return bond_of(space, claim)


def bond_of(space, claim):
    """The bond of a claim line or side of a space that stands; None if it has none."""
    found = common_press([land.step_table(claim) for land in space.base()])
    if found is None:
        return None
    side, across = found
    return ("ratio" if side == "spot" else "direction", across)


def gap_follows(space, claim):
    """Whether the gap of a plain claim is always zero."""
    return all([space.follows(gap_form(space.room, claim, axis)) for axis in AXES])


def with_plain(space, saying):
    """The space with the plain claims of a saying told, too."""
    return space.also([claim for claim in saying if is_plain(claim)])


def can_hold(space, saying):
    """Whether the claims of a saying other than line and side hold together in a whole land."""
    more = with_plain(space, saying)
    if not stands(more):
        return False
    denied = [claim[1] for claim in saying if claim[0] == "not"]
    return not any([gap_follows(more, claim) for claim in denied])


def is_sure(space, claim):
    """Whether a claim of a space that stands surely holds."""
    if is_plain(claim):
        return gap_follows(space, claim)
    if claim[0] == "not":
        return not stands(space.also([claim[1]]))
    return bond_of(space, claim) is not None


def has_steps(claim):
    """Whether the word of a claim is line or side."""
    return claim[0] in ("line", "side")
