"""Forms and rows as vectors, as the stairs take them."""

from lostland.exact import ONE
from lostland.forms import unknowns
from lostland.stairs import weights_of, whole_vector
from lostland.sums import form_of_row, row_keys


def form_vector(room, form, tag=None):
    """The vector of a form, with a tag if one is given."""
    return _vector(form, _places(room), tag)


def row_vectors(room, told):
    """The list of the vectors of the rows, in order."""
    places = _places(room)
    return [_vector(form_of_row(room, key, told), places) for key in row_keys(room, told)]


def tagged_vectors(room, told):
    """The list of the vectors of the rows; the tags are their places behind the unknowns."""
    places = _places(room)
    many = len(places)
    return [_vector(form_of_row(room, key, told), places, many + at)
            for at, key in enumerate(row_keys(room, told))]


def tagged_sum(rest, tag, keys, many):
    """The sum with the form of the row or form with a tag, whose cleared vector this is."""
    weights = weights_of(rest, tag)
    return tuple(sorted([(keys[at - many], weights[at]) for at in weights]))


def _places(room):
    """The index of each unknown."""
    return {unknown: at for at, unknown in enumerate(unknowns(room))}


def _vector(form, places, tag=None):
    """The vector of a form, with these indexes of the unknowns."""
    pairs = [(places[unknown], weight) for unknown, weight in form]
    if tag is None:
        return whole_vector(pairs)
    return whole_vector(pairs + [(tag, ONE)])
