"""Rows of whole numbers, cleared by those ahead of them.

A vector is a dict from indexes to numbers other than 0. The indexes below a number many are
those of unknowns; further ones are tags, which tell how much of which row a vector is made of.
A list of stairs has pairs (lead, vector): the lead is an unknown that no later vector has.
"""

from math import gcd, lcm

from lostland.exact import fraction


def whole_vector(pairs):
    """A multiple of pairs (index, fraction), with different indexes and without fractions 0."""
    under = 1
    for _, weight in pairs:
        under = lcm(under, weight[1])
    return {at: weight[0] * (under // weight[1]) for at, weight in pairs}


def cleared(stairs, vector):
    """A multiple of the vector plus multiples of the stairs, without the leads of the stairs."""
    rest = vector
    for lead, stair in stairs:
        if lead in rest:
            rest = _without_lead(rest, stair, lead)
    return rest


def lead_of(vector, many):
    """The first unknown that a vector has; None if it has none."""
    return min([at for at in vector if at < many], default=None)


def stairs_of(vectors, many):
    """The stairs that the vectors give, one after the other; spare ones give none."""
    stairs = []
    for vector in vectors:
        rest = cleared(stairs, vector)
        lead = lead_of(rest, many)
        if lead is not None:
            stairs.append((lead, rest))
    return stairs


def null_vectors(stairs, many):
    """Vectors over the unknowns of which all that are 0 on the stairs are mixed in one way."""
    leads = {lead: True for lead, _ in stairs}
    return [_null_vector(stairs, free) for free in range(many) if free not in leads]


def weights_of(rest, tag):
    """What the row with a tag is made of, from a cleared vector without unknowns.

    A dict from the tags of other rows to fractions.
    """
    return {at: fraction(-rest[at], rest[tag]) for at in rest if at != tag}


def _null_vector(stairs, free):
    """The vector that is 0 on the stairs, with this free unknown and no other free one."""
    vector = {free: 1}
    # No stair has the lead of an earlier one, so that each one tells its own lead by later ones.
    for lead, stair in reversed(stairs):
        total = sum([stair[at] * vector[at] for at in stair if at in vector])
        if total != 0:
            shared = gcd(total, stair[lead])
            factor = stair[lead] // shared
            vector = {at: vector[at] * factor for at in vector}
            vector[lead] = -total // shared
    return vector


def _without_lead(one, other, lead):
    """A multiple of the one vector plus a multiple of the other one, without the lead."""
    shared = gcd(one[lead], other[lead])
    up = other[lead] // shared
    down = one[lead] // shared
    values = [(at, up * one.get(at, 0) - down * other.get(at, 0)) for at in {**one, **other}]
    return _primitive({at: value for at, value in values if value != 0})


def _primitive(vector):
    """The vector divided by the greatest number that divides all of it."""
    shared = 0
    for at in vector:
        shared = gcd(shared, vector[at])
    return {at: vector[at] // shared for at in vector}
