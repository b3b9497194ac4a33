"""Judge papers, which show the words of sayings, and the grounds of claims that surely hold."""

from lostland.claims import check_claim, check_saying, is_plain
from lostland.exact import is_direction, is_number
from lostland.forms import AXES, bond_form, gap_form
from lostland.judging import bond_of, gap_follows, has_steps, is_sure, judge, with_plain
from lostland.presses import crushed_paper, is_crushed_paper
from lostland.seeking import land_without
from lostland.sums import is_sum_for
from lostland.whole import stands, whole_land


def judge_paper(space, saying):
    """A judge paper that begins with the word of the saying."""
    word = judge(space, saying)
    if word == "surely":
        return (word, *[_ground(space, claim) for claim in saying])
    if word == "never":
        return (word, _never_paper(space, saying))
    if word == "unsure":
        return (word, _land_against(space, saying))
    return (word, _land_for(space, saying), _land_against(space, saying))


def is_ground(space, claim, value):
    """Whether any value is a ground of a claim."""
    check_claim(space.room, claim)
    return _is_ground_of(space, claim, value)


def is_judge_paper(space, saying, value):
    """Whether any value is a judge paper of the saying."""
    check_saying(space.room, saying)
    if not isinstance(value, tuple) or value == ():
        return False
    word, *parts = value
    if word == "surely":
        return (len(parts) == len(saying)
                and all([_is_ground_of(space, claim, part) for claim, part in zip(saying, parts)]))
    if word == "never":
        return len(parts) == 1 and _is_never_paper(space, saying, parts[0])
    # A saying with line or side is never shown to be open, any other one never to be unsure.
    if word not in ("open", "unsure") or (word == "unsure") != _has_any_steps(saying):
        return False
    if len(parts) != (1 if word == "unsure" else 2) or not _are_whole_lands(space, parts):
        return False
    return not _is_so(parts[-1], saying) and (word == "unsure" or _is_so(parts[0], saying))


def _ground(space, claim):
    """A ground of a claim that surely holds."""
    if claim[0] == "not":
        return crushed_paper(space.also([claim[1]]))
    if is_plain(claim):
        return ("rows", *_gap_sums(space, claim))
    word, across = bond_of(space, claim)
    sums = [space.sum_for(bond_form(space.room, claim, word, across, axis)) for axis in AXES]
    return (word, across, *sums)


def _gap_sums(space, claim):
    """Sums with the forms of the coordinates of the gap of a plain claim."""
    return [space.sum_for(gap_form(space.room, claim, axis)) for axis in AXES]


def _never_paper(space, saying):
    """What shows that the claims of a saying other than line and side do not hold together."""
    more = with_plain(space, saying)
    if not stands(more):
        return crushed_paper(more)
    at = [claim[0] == "not" and gap_follows(more, claim[1]) for claim in saying].index(True)
    return ("follows", at, *_gap_sums(more, saying[at][1]))


def _land_for(space, saying):
    """A whole land in which a saying without line and side holds."""
    denied = [claim[1] for claim in saying if claim[0] == "not"]
    return land_without(with_plain(space, saying), denied)


def _land_against(space, saying):
    """A whole land in which a saying does not hold."""
    unsure = [claim for claim in saying if not is_sure(space, claim)][0]
    if unsure[0] == "not":
        return whole_land(space.also([unsure[1]]))
    return land_without(space, [unsure])


def _is_ground_of(space, claim, value):
    """Whether any value is a ground of what surely is a claim."""
    if claim[0] == "not":
        return is_crushed_paper(space.also([claim[1]]), value)
    if not isinstance(value, tuple):
        return False
    if is_plain(claim):
        return len(value) == 3 and value[0] == "rows" and _are_gap_sums(space, claim, value[1:])
    if len(value) != 4 or value[0] not in ("ratio", "direction") or not is_direction(value[1]):
        return False
    word, across, *sums = value
    forms = [bond_form(space.room, claim, word, across, axis) for axis in AXES]
    return all([is_sum_for(space.room, sums[axis], forms[axis], space.told()) for axis in AXES])


def _are_gap_sums(space, claim, values):
    """Whether two values are sums with the forms of the coordinates of a gap."""
    return all([is_sum_for(space.room, values[axis], gap_form(space.room, claim, axis), space.told())
                for axis in AXES])


def _is_never_paper(space, saying, value):
    """Whether any value may stand behind the word never."""
    more = with_plain(space, saying)
    if is_crushed_paper(more, value):
        return True
    if not isinstance(value, tuple) or len(value) != 4 or value[0] != "follows":
        return False
    at = value[1]
    if not is_number(at) or not 0 <= at < len(saying) or saying[at][0] != "not":
        return False
    return _are_gap_sums(more, saying[at][1], value[2:])


def _has_any_steps(saying):
    """Whether a saying has a claim line or side."""
    return any([has_steps(claim) for claim in saying])


def _are_whole_lands(space, values):
    """Whether all of the values are whole lands of the space."""
    return all([space.has(value) and value.is_whole for value in values])


def _is_so(land, saying):
    """Whether a saying holds in a land."""
    return all([land.holds(claim) for claim in saying])
