"""Tests of plain values that several modules share."""

from leastmoved.errors import BadValue

MOST_VARIANTS = 5
MOST_BUCKETS = 20


def is_integer(value, least, greatest):
    """Return True if the value is an integer from least to greatest."""
    # True and False are integers to Python, but not to the document.
    if not isinstance(value, int) or isinstance(value, bool):
        return False
    return least <= value <= greatest


def are_integers(value, least, greatest):
    """Return True if the value is a tuple of integers from least to greatest."""
    return isinstance(value, tuple) and all([is_integer(part, least, greatest) for part in value])


def require(holds, name):
    """Raise BadValue with the name of the argument unless its condition holds."""
    if not holds:
        raise BadValue(name)


def check_variants(variants):
    """Raise BadValue unless there are 1 to 5 variants."""
    require(is_integer(variants, 1, MOST_VARIANTS), "variants")


def check_sizes(variants, buckets):
    """Raise BadValue unless there are 1 to 5 variants and 0 to 20 buckets."""
    check_variants(variants)
    require(is_integer(buckets, 0, MOST_BUCKETS), "buckets")
