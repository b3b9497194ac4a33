"""Readings that may be wrong, in spaces that do not stand."""

from lostland.errors import InvalidNumber, Stands
from lostland.exact import is_number
from lostland.presses import crushed_paper
from lostland.where import where
from lostland.whole import stands

_MOST_STRUCK = 3


def suspects(space):
    """The list of the readings without each of which the space stands, in order."""
    if stands(space):
        raise Stands()
    return [(name, mark) for name, mark in space.room.readings()
            if stands(space.without(name, mark))]


def fewest(space, *, most=2):
    """The fewest readings without all of which the space stands; None for more than most."""
    if not is_number(most) or not 0 <= most <= _MOST_STRUCK:
        raise InvalidNumber(most)
    order = space.room.readings()
    choices = [()]
    for size in range(most + 1):
        if size > 0:
            choices = _longer(space, order, choices)
        for places in choices:
            if stands(_struck(space, order, places)):
                return [order[at] for at in places]
    return None


def apart_papers(space):
    """Crushed papers, no two of which have rows of the same reading."""
    rest = space
    paper = crushed_paper(rest)
    while paper is not None:
        yield paper
        pairs = _readings_of(paper)
        if pairs == []:
            return
        rest = _without_all(rest, pairs)
        paper = crushed_paper(rest)


def mended(space, name, mark):
    """The spot at which a mark is known on a sheet without its reading; None if it is not."""
    return where(space.without(name, mark), ("mark", mark), on=name)


def _longer(space, order, choices):
    """The ascending list of longer tuples of places, where no space without the choices stands.

    Of each crushed paper a reading must go, so that no others need to be tried.
    """
    found = {}
    for places in choices:
        for pair in _readings_of(crushed_paper(_struck(space, order, places))):
            longer = sorted([*places, order.index(pair)])
            found[tuple(longer)] = True
    return sorted(list(found))


def _struck(space, order, places):
    """The space without the readings at some places of the order."""
    return _without_all(space, [order[at] for at in places])


def _readings_of(paper):
    """The readings that have rows in a crushed paper."""
    return list({key[1:3]: True for total in paper[4:] for key, _ in total if key[0] == "reading"})


def _without_all(space, pairs):
    """The space without all of these readings."""
    rest = space
    for name, mark in pairs:
        rest = rest.without(name, mark)
    return rest
