"""Pairs of a key and a weight, as forms and sums have them."""

from lostland.exact import ZERO, is_fraction, is_pair, plus, times


def is_key(value):
    """Whether any value is a tuple without True and False, which equal the numbers 1 and 0."""
    return isinstance(value, tuple) and not any([isinstance(item, bool) for item in value])


def put_together(pairs):
    """The ascending tuple of the pairs, with equal keys put together, without weights 0."""
    totals = {}
    for key, weight in pairs:
        totals[key] = plus(totals.get(key, ZERO), weight)
    return tuple([(key, totals[key]) for key in sorted(list(totals)) if totals[key] != ZERO])


def mixture(parts):
    """The sum of tuples of pairs times their weights, from pairs (weight, tuple)."""
    return put_together(
        [(key, times(own, weight)) for weight, pairs in parts for key, own in pairs])


def is_mixture(value, keys):
    """Whether any value is an ascending tuple of pairs of these keys and weights that are not 0."""
    if not isinstance(value, tuple) or not all([_is_weighted_key(pair) for pair in value]):
        return False
    found = [key for key, _ in value]
    return all([key in keys for key in found]) and _is_ascending(found)


def _is_weighted_key(value):
    """Whether any value is a pair of what may be a key and a fraction that is not 0."""
    return is_pair(value) and is_key(value[0]) and is_fraction(value[1]) and value[1] != ZERO


def _is_ascending(keys):
    """Whether the keys ascend, without duplicates."""
    return all([one < other for one, other in zip(keys, keys[1:])])
