"""Pairs of a key and a weight, as forms and sums have them."""

from lostland.exact import ZERO, plus, times


def is_key(value):
    """Whether any value is a tuple without True and False, which equal the numbers 1 and 0."""
    return isinstance(value, tuple) and not any([isinstance(item, bool) for item in value])


def put_together(pairs):
    """The ascending tuple of the pairs, with equal keys put together, without weights 0."""
    totals = {}
    for key, weight in pairs:
        totals[key] = plus(totals.get(key, ZERO), weight)
    return tuple([(key, totals[key]) for key in sorted(list(totals)) if totals[key] != ZERO])


def mixture(parts):
    """The sum of tuples of pairs times their weights, from pairs (weight, tuple)."""
    return put_together(
        [(key, times(own, weight)) for weight, pairs in parts for key, own in pairs])
